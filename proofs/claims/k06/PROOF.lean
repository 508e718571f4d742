import PyProof.Rows.All
import Wide.All
import OpenK.AllK
import Wide.FinOn
import HandS.ForMost
import HandS.Walk
import HandS.Zip
import HandS.Wide
import HandS.IsInst
import HandS.TupAny
import HandS.TupMul
import KE.GoesMore
import PyProof.ListMulRoad
import PyProof.FactsAll.tuple_2
import KE.GoesEnum
import PyProof.FactsAll.list_3
import HandS.Style
import HandS.TryOnly
import HandS.Text
import HandS.Codes
import PyProof.Rows.IntBool
import PyProof.CallStr
import PyProof.FString2
import PyProof.Rows.RegStrFacts
import PyProof.Rows.StrFit
import HandS.Set
import HandS.SetFor
import KE.KRevSl
import PyProof.Rows.SortStr
import KE.KStrOpen
import PyProof.Rows.ReprOcc
import HandS.Deep
import PyProof.Rows.SeqMore
import KE.KDictDisplayH
import KE.KDictPairs
import KE.LtData
import KE.KSortAsk
import HandS.SortRule
import KE.SortData
import KE.SortKeyHeap
import KE.DataMinMax
import KE.DataMinKey
import PyProof.SeqI3
import PyProof.TupleOfSeq
import PySem.Challenge.RW_raftwalk_k06_tables_judged
set_option Elab.async false
set_option linter.all false
set_option maxRecDepth 100000
set_option maxHeartbeats 4000000
set_option exponentiation.threshold 10000
/-! Rw1: programs over plain data and a few lists that change: what an expression, a block is worth, said by data alone. -/
namespace Rw
open PySem L2

abbrev Dt := PyData
/-- a value: plain data, or the k-th of the things that change, or a dict that changes no more, or a tuple known to be plain -/
inductive DE where
  | d (x : Dt)
  | c (k : Nat)
  | z (P : Program) (w : World) (kvs : List (List Str × Dt))
  | p (ds : List Dt)
abbrev LE := List (Option DE)
/-- what changes: a list, a dict whose keys are tuples of texts -/
inductive Cl where
  | lst (ds : List Dt)
  | dic (P : Program) (w : World) (kvs : List (List Str × Dt))
abbrev MU := List (Option Cl)

section
variable {K : PySem.W.Frag}
mutual
theorem dp_mono {G G' : Hp} (e : Same G G') : ∀ {v : V} {d : Dt}, Dp K G v d → Dp K G' v d
  | _, _, .non => .non
  | _, _, .bl b => .bl b
  | _, _, .int i => .int i
  | _, _, .str x => .str x
  | _, _, .lst h hs => .lst (e.seq h) (dpa_mono e hs)
  | _, _, .tup h hs => .tup (by
      rcases h with (h | ⟨o, h⟩) | h
      · exact .inl (.inl (e _ _ h))
      · exact .inl (.inr ⟨o, e _ _ h⟩)
      · exact .inr h) (dpa_mono e hs)
theorem dpa_mono {G G' : Hp} (e : Same G G') : ∀ {v : List V} {d : List Dt}, DpAll K G v d → DpAll K G' v d
  | _, _, .nil => .nil
  | _, _, .cons h hs => .cons (dp_mono e h) (dpa_mono e hs)
end
theorem sqt_mono {G G' : Hp} {a : Addr} {xs : List V} (e : Same G G') (h : SqT K G a xs) : SqT K G' a xs := by
  rcases h with (h | ⟨o, h⟩) | h
  · exact .inl (.inl (e _ _ h))
  · exact .inl (.inr ⟨o, e _ _ h⟩)
  · exact .inr h
theorem same_new {H : Hp} {p : Addr} {o : HO} (h : H p = none) : Same H (upd H p o) := fun b x e => by
  rw [upd_ne (ne_of_none e h)]; exact e

/-! ### lists of data -/
theorem dpa_len {G : Hp} : ∀ {vs : List V} {ds : List Dt}, DpAll K G vs ds → vs.length = ds.length
  | _, _, .nil => rfl
  | _, _, .cons _ h => by rw [List.length_cons, List.length_cons, dpa_len h]
theorem dpa_get {G : Hp} : ∀ {vs : List V} {ds : List Dt} {i : Nat} {d : Dt}, DpAll K G vs ds → ds[i]? = some d → ∃ v, vs[i]? = some v ∧ Dp K G v d
  | _, _, _, _, .nil, h => by simp at h
  | _, _, 0, _, .cons h _, e => by
    have e := Option.some.inj e
    subst e
    exact ⟨_, rfl, h⟩
  | _, _, i + 1, _, .cons _ hs, e => by
    obtain ⟨v, h1, h2⟩ := dpa_get (i := i) hs e
    exact ⟨v, h1, h2⟩
theorem dpa_getv {G : Hp} : ∀ {vs : List V} {ds : List Dt} {i : Nat} {v : V}, DpAll K G vs ds → vs[i]? = some v → ∃ d, ds[i]? = some d ∧ Dp K G v d
  | _, _, _, _, .nil, h => by simp at h
  | _, _, 0, _, .cons h _, e => by
    have e := Option.some.inj e
    subst e
    exact ⟨_, rfl, h⟩
  | _, _, i + 1, _, .cons _ hs, e => by
    obtain ⟨v, h1, h2⟩ := dpa_getv (i := i) hs e
    exact ⟨v, h1, h2⟩
theorem dpa_app {G : Hp} : ∀ {vs ws : List V} {ds es : List Dt}, DpAll K G vs ds → DpAll K G ws es → DpAll K G (vs ++ ws) (ds ++ es)
  | _, _, _, _, .nil, h => h
  | _, _, _, _, .cons h hs, k => .cons h (dpa_app hs k)
theorem dpa_take {G : Hp} : ∀ {vs : List V} {ds : List Dt} (n : Nat), DpAll K G vs ds → DpAll K G (vs.take n) (ds.take n)
  | _, _, 0, _ => by rw [List.take_zero, List.take_zero]; exact .nil
  | _, _, _ + 1, .nil => .nil
  | _, _, n + 1, .cons h hs => .cons h (dpa_take n hs)
theorem dpa_drop {G : Hp} : ∀ {vs : List V} {ds : List Dt} (n : Nat), DpAll K G vs ds → DpAll K G (vs.drop n) (ds.drop n)
  | _, _, 0, h => h
  | _, _, _ + 1, .nil => .nil
  | _, _, n + 1, .cons _ hs => dpa_drop n hs
theorem dpa_set {G : Hp} : ∀ {vs : List V} {ds : List Dt} (n : Nat) {v : V} {d : Dt}, DpAll K G vs ds → Dp K G v d → DpAll K G (vs.set n v) (ds.set n d)
  | _, _, _, _, _, .nil, _ => .nil
  | _, _, 0, _, _, .cons _ hs, k => .cons k hs
  | _, _, n + 1, _, _, .cons h hs, k => .cons h (dpa_set n hs k)
theorem dpa_rep {G : Hp} {vs : List V} {ds : List Dt} (h : DpAll K G vs ds) : ∀ n, DpAll K G (List.replicate n vs).flatten (List.replicate n ds).flatten
  | 0 => .nil
  | n + 1 => by
    rw [List.replicate_succ, List.replicate_succ, List.flatten_cons, List.flatten_cons]
    exact dpa_app h (dpa_rep h n)
theorem dpa_ints {G : Hp} : ∀ {vs : List V} {ns : List Int}, DpAll K G vs (ns.map .int) → vs = ns.map V.int
  | _, [], h => by cases h; rfl
  | _, n :: ns, h => by
    cases h with
    | cons h hs =>
      cases h
      rw [dpa_ints hs]; rfl
theorem dpa_bls {G : Hp} : ∀ {vs : List V} {ns : List Bool}, DpAll K G vs (ns.map .bool) → vs = ns.map V.bl
  | _, [], h => by cases h; rfl
  | _, n :: ns, h => by
    cases h with
    | cons h hs =>
      cases h
      rw [dpa_bls hs]; rfl
theorem dpa_strs {G : Hp} : ∀ {vs : List V} {ns : List Str}, DpAll K G vs (ns.map .str) → vs = ns.map V.str
  | _, [], h => by cases h; rfl
  | _, n :: ns, h => by
    cases h with
    | cons h hs =>
      cases h
      rw [dpa_strs hs]; rfl

/-! ### the situation -/
/-- the object of a dict: its entries -/
def dicO (P : Program) (w : World) (a : Addr) (xs : List (List Key × Addr × Value)) : HO := .ext fun h => (a == sysModules) = false ∧ ∃ o es ep, h.get? a = some o ∧ o.ExactDict ∧ o.data = .dict es ep ∧ es.toList = xs.map (entryOfKey (tupleKind (mixKind P w))) ∧ (xs.map (·.1)).Nodup
def kyS (k : List Str) : List Key := k.map Sum.inr
/-- its entries are those told -/
inductive EnOk (K : PySem.W.Frag) (G : Hp) : List (List Key × Addr × Value) → List (List Str × Dt) → Prop
  | nil : EnOk K G [] []
  | cons {k : List Str} {b : Addr} {v : V} {u : Value} {d : Dt} {xs : List (List Key × Addr × Value)} {kvs : List (List Str × Dt)} : SqT K G b (k.map V.str) → RelV v u → Dp K G v d → EnOk K G xs kvs → EnOk K G ((kyS k, b, u) :: xs) ((k, d) :: kvs)
theorem EnOk.mono {G G' : Hp} (e : Same G G') : ∀ {xs : List (List Key × Addr × Value)} {kvs : List (List Str × Dt)}, EnOk K G xs kvs → EnOk K G' xs kvs
  | _, _, .nil => .nil
  | _, _, .cons h r d t => .cons (sqt_mono e h) r (dp_mono e d) (EnOk.mono e t)
/-- the same, the very object told: it changes no more -/
def dilO (P : Program) (w : World) (a : Addr) (o : Obj) (xs : List (List Key × Addr × Value)) : HO := .ext fun h => (a == sysModules) = false ∧ h.get? a = some o ∧ ∃ es ep, o.ExactDict ∧ o.data = .dict es ep ∧ es.toList = xs.map (entryOfKey (tupleKind (mixKind P w))) ∧ (xs.map (·.1)).Nodup
inductive Rp (K : PySem.W.Frag) (G : Hp) (A : List Addr) : V → DE → Prop
  | d {v : V} {x : Dt} : Dp K G v x → Rp K G A v (.d x)
  | c {k : Nat} {a : Addr} : A[k]? = some a → Rp K G A (.ref a) (.c k)
  | z {P : Program} {w : World} {a : Addr} {o : Obj} {xs : List (List Key × Addr × Value)} {kvs : List (List Str × Dt)} : G a = some (dilO P w a o xs) → EnOk K G xs kvs → kvs.length ≤ 1000 → Rp K G A (.ref a) (.z P w kvs)
  | p {a : Addr} {o : Obj} {xs : List V} {ds : List Dt} : G a = some (.frz o (.tup xs)) → o.dict = none → DpAll K G xs ds → Rp K G A (.ref a) (.p ds)
inductive RpL (K : PySem.W.Frag) (G : Hp) (A : List Addr) : List V → List DE → Prop
  | nil : RpL K G A [] []
  | cons {v : V} {vs : List V} {x : DE} {xs : List DE} : Rp K G A v x → RpL K G A vs xs → RpL K G A (v :: vs) (x :: xs)
def Pre (A A' : List Addr) : Prop := ∃ B, A' = A ++ B
theorem Pre.refl (A : List Addr) : Pre A A := ⟨[], by rw [List.append_nil]⟩
theorem Pre.trans {A B C : List Addr} (h : Pre A B) (k : Pre B C) : Pre A C := by
  obtain ⟨x, rfl⟩ := h
  obtain ⟨y, rfl⟩ := k
  exact ⟨x ++ y, by rw [List.append_assoc]⟩
theorem Pre.get {A A' : List Addr} (h : Pre A A') {k : Nat} {a : Addr} (e : A[k]? = some a) : A'[k]? = some a := by
  obtain ⟨B, rfl⟩ := h
  have hk : k < A.length := by
    rcases Nat.lt_or_ge k A.length with q | q
    · exact q
    · rw [List.getElem?_eq_none_iff.mpr q] at e; cases e
  rw [List.getElem?_append_left hk]; exact e
theorem Rp.mono {G G' : Hp} {A A' : List Addr} {v : V} {x : DE} (h : Rp K G A v x) (e : Same G G') (p : Pre A A') : Rp K G' A' v x := by
  cases h with
  | d h => exact .d (dp_mono e h)
  | c h => exact .c (p.get h)
  | z h n l => exact .z (e _ _ h) (n.mono e) l
  | p h n l => exact .p (e _ _ h) n (dpa_mono e l)
theorem RpL.mono {G G' : Hp} {A A' : List Addr} (e : Same G G') (p : Pre A A') : ∀ {vs : List V} {xs : List DE}, RpL K G A vs xs → RpL K G' A' vs xs
  | _, _, .nil => .nil
  | _, _, .cons h hs => .cons (h.mono e p) (RpL.mono e p hs)
theorem RpL.len {G : Hp} {A : List Addr} : ∀ {vs : List V} {xs : List DE}, RpL K G A vs xs → vs.length = xs.length
  | _, _, .nil => rfl
  | _, _, .cons _ h => by rw [List.length_cons, List.length_cons, RpL.len h]
theorem RpL.data {G : Hp} {A : List Addr} : ∀ {vs : List V} {ds : List Dt}, RpL K G A vs (ds.map .d) → DpAll K G vs ds
  | _, [], h => by cases h; exact .nil
  | _, d :: ds, h => by
    cases h with
    | cons h hs => cases h with | d h => exact .cons h (RpL.data hs)

def CellOk (K : PySem.W.Frag) (G H : Hp) (a : Addr) : Cl → Prop
  | .lst ds => ∃ xs, H a = some (.lst xs) ∧ DpAll K G xs ds
  | .dic P w kvs => ∃ xs, H a = some (dicO P w a xs) ∧ EnOk K G xs kvs ∧ kvs.length ≤ 1000
theorem CellOk.keep {G G' H H' : Hp} {a : Addr} {c : Cl} (h : CellOk K G H a c) (e : Same G G') (k : ∀ o, H a = some o → H' a = some o) : CellOk K G' H' a c := by
  cases c with
  | lst ds => obtain ⟨xs, h1, h2⟩ := h; exact ⟨xs, k _ h1, dpa_mono e h2⟩
  | dic P w kvs => obtain ⟨xs, h1, h2, h3⟩ := h; exact ⟨xs, k _ h1, h2.mono e, h3⟩
theorem CellOk.live {G H : Hp} {a : Addr} {c : Cl} (h : CellOk K G H a c) : ∃ o, H a = some o := by
  cases c with
  | lst ds => obtain ⟨xs, h1, h2⟩ := h; exact ⟨_, h1⟩
  | dic P w kvs => obtain ⟨xs, h1, h2, h3⟩ := h; exact ⟨_, h1⟩
structure Sit (K : PySem.W.Frag) (G H : Hp) (A : List Addr) (μ : MU) : Prop where
  ex : Same G H
  len : A.length = μ.length
  nd : A.Nodup
  liv : ∀ (k : Nat) (a : Addr), A[k]? = some a → H a ≠ none
  cl : ∀ (k : Nat) (a : Addr) (c : Cl), A[k]? = some a → μ[k]? = some (some c) → G a = none ∧ CellOk K G H a c
theorem Sit.cell {G H : Hp} {A : List Addr} {μ : MU} (S : Sit K G H A μ) (k : Nat) (a : Addr) (ds : List Dt) (ha : A[k]? = some a) (hm : μ[k]? = some (some (Cl.lst ds))) : G a = none ∧ ∃ xs, H a = some (.lst xs) ∧ DpAll K G xs ds := S.cl k a _ ha hm
/-- what is in the slots -/
def InE (K : PySem.W.Frag) (G : Hp) (A : List Addr) (σ : L2.St) (env : LE) : Prop :=
  σ.length = env.length ∧ ∀ (i : Nat) (x : DE), env[i]? = some (some x) → ∃ v, σ[i]? = some (some v) ∧ Rp K G A v x
theorem InE.mono {G G' : Hp} {A A' : List Addr} {σ : L2.St} {env : LE} (h : InE K G A σ env) (e : Same G G') (p : Pre A A') : InE K G' A' σ env :=
  ⟨h.1, fun i x q => let ⟨v, h1, h2⟩ := h.2 i x q; ⟨v, h1, h2.mono e p⟩⟩
theorem InE.set {G : Hp} {A : List Addr} {σ : L2.St} {env : LE} (h : InE K G A σ env) {v : V} {x : DE} (r : Rp K G A v x) (i : Nat) : InE K G A (σ.set i (some v)) (env.set i (some x)) := by
  refine ⟨by rw [List.length_set, List.length_set]; exact h.1, fun j y q => ?_⟩
  by_cases hj : i = j
  · subst hj
    by_cases hl : i < env.length
    · rw [List.getElem?_set_self hl] at q
      have q := Option.some.inj (Option.some.inj q)
      subst q
      exact ⟨v, by rw [List.getElem?_set_self (by rw [h.1]; exact hl)], r⟩
    · rw [List.getElem?_eq_none_iff.mpr (by rw [List.length_set]; omega)] at q; cases q
  · rw [List.getElem?_set_ne hj] at q
    obtain ⟨w, h1, h2⟩ := h.2 j y q
    exact ⟨w, by rw [List.getElem?_set_ne hj]; exact h1, h2⟩
theorem InE.wipe1 {G : Hp} {A : List Addr} {σ : L2.St} {env : LE} (h : InE K G A σ env) (i : Nat) : InE K G A (σ.set i none) (env.set i none) := by
  refine ⟨by rw [List.length_set, List.length_set]; exact h.1, fun j y q => ?_⟩
  by_cases hj : i = j
  · subst hj
    by_cases hl : i < env.length
    · rw [List.getElem?_set_self hl] at q; cases q
    · rw [List.getElem?_eq_none_iff.mpr (by rw [List.length_set]; omega)] at q; cases q
  · rw [List.getElem?_set_ne hj] at q
    obtain ⟨w, h1, h2⟩ := h.2 j y q
    exact ⟨w, by rw [List.getElem?_set_ne hj]; exact h1, h2⟩

/-! ### moves of the situation -/
theorem lt_get {α : Type} {l : List α} {k : Nat} {a : α} (e : l[k]? = some a) : k < l.length := by
  rcases Nat.lt_or_ge k l.length with q | q
  · exact q
  · rw [List.getElem?_eq_none_iff.mpr q] at e; cases e
theorem Sit.uniq {G H : Hp} {A : List Addr} {μ : MU} (S : Sit K G H A μ) {j k : Nat} {a : Addr} (h : A[j]? = some a) (h' : A[k]? = some a) : j = k := by
  have hj := lt_get h
  have hk := lt_get h'
  rw [List.getElem?_eq_getElem hj] at h
  rw [List.getElem?_eq_getElem hk] at h'
  exact (List.getElem_inj S.nd).mp (Option.some.inj (h.trans h'.symm))
/-- a new thing that does not change -/
theorem Sit.new {G H : Hp} {A : List Addr} {μ : MU} (S : Sit K G H A μ) {p : Addr} {o : HO} (h : H p = none) : Sit K (upd G p o) (upd H p o) A μ := by
  have gp : G p = none := S.ex.free h
  refine ⟨fun b x e => ?_, S.len, S.nd, fun k a ha => ?_, fun k a ds ha hd => ?_⟩
  · by_cases hb : b = p
    · subst hb; rw [upd_same] at e ⊢; exact e
    · rw [upd_ne hb] at e ⊢; exact S.ex _ _ e
  · have hl := S.liv k a ha
    have hne : a ≠ p := fun e => by subst e; exact hl h
    rw [upd_ne hne]; exact hl
  · obtain ⟨h1, h2⟩ := S.cl k a ds ha hd
    obtain ⟨o', ho⟩ := h2.live
    have hne : a ≠ p := ne_of_none ho h
    exact ⟨by rw [upd_ne hne]; exact h1, h2.keep (same_new gp) fun u hu => by rw [upd_ne hne]; exact hu⟩
/-- a new thing that may change -/
theorem Sit.newX {G H : Hp} {A : List Addr} {μ : MU} (S : Sit K G H A μ) {p : Addr} {o : HO} {c : Cl} (h : H p = none) (hx : CellOk K G (upd H p o) p c) : Sit K G (upd H p o) (A ++ [p]) (μ ++ [some c]) := by
  have gp : G p = none := S.ex.free h
  have hk' : ∀ k a, ¬ k < A.length → (A ++ [p])[k]? = some a → k = A.length ∧ a = p := fun k a q ha => by
    have hk : k = A.length := by
      have r := lt_get ha
      rw [List.length_append] at r; simp at r; omega
    subst hk
    rw [List.getElem?_append_right (Nat.le_refl _), Nat.sub_self] at ha
    exact ⟨rfl, (Option.some.inj ha).symm⟩
  refine ⟨S.ex.trans (same_new h), by rw [List.length_append, List.length_append, S.len]; rfl, ?_, fun k a ha => ?_, fun k a es ha hd => ?_⟩
  · rw [List.nodup_append]
    refine ⟨S.nd, by simp, fun a ha b hb => ?_⟩
    have hb : b = p := by simpa using hb
    subst hb
    obtain ⟨k, hk⟩ := List.getElem?_of_mem ha
    intro e; subst e
    exact S.liv k a hk h
  · by_cases q : k < A.length
    · rw [List.getElem?_append_left q] at ha
      have hl := S.liv k a ha
      have hne : a ≠ p := fun e => by subst e; exact hl h
      rw [upd_ne hne]; exact hl
    · obtain ⟨_, rfl⟩ := hk' k a q ha
      rw [upd_same]; intro z; cases z
  · by_cases q : k < A.length
    · rw [List.getElem?_append_left q] at ha
      rw [List.getElem?_append_left (by rw [← S.len]; exact q)] at hd
      obtain ⟨h1, h2⟩ := S.cl k a es ha hd
      obtain ⟨o', ho⟩ := h2.live
      exact ⟨h1, h2.keep (Same.refl G) fun u hu => by rw [upd_ne (ne_of_none ho h)]; exact hu⟩
    · obtain ⟨rfl, rfl⟩ := hk' k a q ha
      rw [S.len, List.getElem?_append_right (Nat.le_refl _), Nat.sub_self] at hd
      have hd := Option.some.inj (Option.some.inj hd)
      subst hd
      exact ⟨gp, hx⟩
theorem Sit.newC {G H : Hp} {A : List Addr} {μ : MU} (S : Sit K G H A μ) {p : Addr} {xs : List V} {ds : List Dt} (h : H p = none) (hx : DpAll K G xs ds) : Sit K G (upd H p (.lst xs)) (A ++ [p]) (μ ++ [some (Cl.lst ds)]) := S.newX h ⟨xs, upd_same, hx⟩
/-- a thing of ours changes -/
theorem Sit.putX {G H : Hp} {A : List Addr} {μ : MU} (S : Sit K G H A μ) {k : Nat} {a : Addr} {o : HO} {es ds : Cl} (ha : A[k]? = some a) (hm : μ[k]? = some (some es)) (hx : CellOk K G (upd H a o) a ds) : Sit K G (upd H a o) A (μ.set k (some ds)) := by
  have ga : G a = none := (S.cl k a es ha hm).1
  refine ⟨fun b x e => ?_, by rw [List.length_set]; exact S.len, S.nd, fun j b hb => ?_, fun j b es hb hd => ?_⟩
  · rw [upd_ne (ne_of_none e ga)]; exact S.ex _ _ e
  · by_cases e : b = a
    · subst e; rw [upd_same]; intro z; cases z
    · rw [upd_ne e]; exact S.liv j b hb
  · by_cases hj : k = j
    · subst hj
      rw [ha] at hb
      have hb := Option.some.inj hb
      subst hb
      rw [List.getElem?_set_self (lt_get hm)] at hd
      have hd := Option.some.inj (Option.some.inj hd)
      subst hd
      exact ⟨ga, hx⟩
    · rw [List.getElem?_set_ne hj] at hd
      obtain ⟨h1, h2⟩ := S.cl j b es hb hd
      have hne : b ≠ a := fun e => by
        subst e
        exact hj (S.uniq ha hb)
      exact ⟨h1, h2.keep (Same.refl G) fun u hu => by rw [upd_ne hne]; exact hu⟩
theorem Sit.put {G H : Hp} {A : List Addr} {μ : MU} (S : Sit K G H A μ) {k : Nat} {a : Addr} {xs : List V} {es ds : List Dt} (ha : A[k]? = some a) (hm : μ[k]? = some (some (Cl.lst es))) (hx : DpAll K G xs ds) : Sit K G (upd H a (.lst xs)) A (μ.set k (some (Cl.lst ds))) := S.putX ha hm ⟨xs, upd_same, hx⟩
/-- a list of ours changes no more: it is data from now on -/
theorem Sit.freeze {G H : Hp} {A : List Addr} {μ : MU} (S : Sit K G H A μ) {k : Nat} {a : Addr} {ds : List Dt} (ha : A[k]? = some a) (hm : μ[k]? = some (some (Cl.lst ds))) :
    ∃ G', Same G G' ∧ (∀ b, G' b ≠ none → G b ≠ none ∨ b ∈ A) ∧ Sit K G' H A (μ.set k none) ∧ Dp K G' (.ref a) (.list ds) := by
  obtain ⟨ga, xs, h2, h3⟩ := S.cell k a ds ha hm
  have hs : Same G (upd G a (.lst xs)) := same_new ga
  refine ⟨upd G a (.lst xs), hs, fun b hb => ?_, ⟨fun b x e => ?_, by rw [List.length_set]; exact S.len, S.nd, S.liv, fun j b es hb hd => ?_⟩, .lst (.inl (.inl upd_same)) (dpa_mono hs h3)⟩
  · by_cases e : b = a
    · subst e; exact .inr (List.mem_of_getElem? ha)
    · rw [upd_ne e] at hb; exact .inl hb
  · by_cases hb : b = a
    · subst hb; rw [upd_same] at e; rw [h2]; exact e
    · rw [upd_ne hb] at e; exact S.ex _ _ e
  · by_cases hj : k = j
    · subst hj
      rw [List.getElem?_set_self (lt_get hm)] at hd
      cases (Option.some.inj hd)
    · rw [List.getElem?_set_ne hj] at hd
      obtain ⟨g1, g2⟩ := S.cl j b es hb hd
      have hne : b ≠ a := fun e => by
        subst e
        exact hj (S.uniq ha hb)
      exact ⟨by rw [upd_ne hne]; exact g1, g2.keep hs fun u hu => hu⟩
/-- the last ones are let go -/
theorem Sit.cut {G H : Hp} {A : List Addr} {μ ν : MU} (S : Sit K G H A (μ ++ ν)) : Sit K G H (A.take μ.length) μ := by
  have hl : A.length = μ.length + ν.length := by rw [S.len, List.length_append]
  have hg : ∀ (k : Nat) (a : Addr), (A.take μ.length)[k]? = some a → A[k]? = some a ∧ k < μ.length := fun k a ha => by
    have hk : k < μ.length := by
      have r := lt_get ha
      rw [List.length_take] at r; omega
    rw [List.getElem?_take_of_lt hk] at ha
    exact ⟨ha, hk⟩
  refine ⟨S.ex, by rw [List.length_take]; omega, (List.take_sublist _ _).nodup S.nd, fun k a ha => S.liv k a (hg k a ha).1, fun k a ds ha hd => ?_⟩
  obtain ⟨h1, h2⟩ := hg k a ha
  exact S.cl k a ds h1 (by rw [List.getElem?_append_left h2]; exact hd)
/-- a move: the old lists keep their places, new ones are new, all else that stood stands as it was; what is known to stay is of old, or new, or was one of the lists -/
structure Mv (G : Hp) (A : List Addr) (H : Hp) (G' : Hp) (A' : List Addr) (H' : Hp) : Prop where
  pre : ∃ B, A' = A ++ B ∧ ∀ a ∈ B, H a = none
  kp : ∀ (a : Addr) (o : HO), H a = some o → a ∉ A → H' a = some o
  up : ∀ a, H a ≠ none → H' a ≠ none
  gr : ∀ a, G' a ≠ none → G a ≠ none ∨ H a = none ∨ a ∈ A
theorem Mv.refl (G : Hp) (A : List Addr) (H : Hp) : Mv G A H G A H := ⟨⟨[], by rw [List.append_nil], fun a h => absurd h (by simp)⟩, fun _ _ h _ => h, fun _ h => h, fun _ h => .inl h⟩
theorem Mv.trans {A A1 A2 : List Addr} {G G1 G2 H H1 H2 : Hp} (h : Mv G A H G1 A1 H1) (k : Mv G1 A1 H1 G2 A2 H2) : Mv G A H G2 A2 H2 := by
  obtain ⟨B, e, f⟩ := h.pre
  obtain ⟨C, e', f'⟩ := k.pre
  have hn : ∀ a, H1 a = none → H a = none := fun a q => by
    cases z : H a with
    | none => rfl
    | some o => exact absurd q (h.up a (by rw [z]; intro w; cases w))
  refine ⟨⟨B ++ C, by rw [e', e, List.append_assoc], fun a ha => ?_⟩, fun a o ha hA => ?_, fun a ha => k.up a (h.up a ha), fun a ha => ?_⟩
  · rcases List.mem_append.mp ha with q | q
    · exact f a q
    · exact hn a (f' a q)
  · refine k.kp a o (h.kp a o ha hA) fun q => ?_
    rw [e] at q
    rcases List.mem_append.mp q with q | q
    · exact hA q
    · rw [f a q] at ha; cases ha
  · rcases k.gr a ha with q | q | q
    · exact h.gr a q
    · exact .inr (.inl (hn a q))
    · rw [e] at q
      rcases List.mem_append.mp q with q | q
      · exact .inr (.inr q)
      · exact .inr (.inl (f a q))
theorem Mv.Pre {A A' : List Addr} {G G' H H' : Hp} (h : Mv G A H G' A' H') : Pre A A' := let ⟨B, e, _⟩ := h.pre; ⟨B, e⟩
theorem mv_new0 {A : List Addr} {H : Hp} {p : Addr} {o : HO} (h : H p = none) : (∀ (a : Addr) (u : HO), H a = some u → a ∉ A → upd H p o a = some u) ∧ ∀ a, H a ≠ none → upd H p o a ≠ none := ⟨fun a u ha _ => by
    rw [upd_ne (ne_of_none ha h)]; exact ha, fun a ha => by
    rw [upd_ne (fun e => by subst e; exact ha h)]; exact ha⟩
theorem Mv.new {A : List Addr} {G H : Hp} {p : Addr} {o : HO} (h : H p = none) : Mv G A H (upd G p o) A (upd H p o) := ⟨⟨[], by rw [List.append_nil], fun a h => absurd h (by simp)⟩, (mv_new0 (A := A) h).1, (mv_new0 (A := A) h).2, fun a ha => by
    by_cases e : a = p
    · subst e; exact .inr (.inl h)
    · rw [upd_ne e] at ha; exact .inl ha⟩
theorem Mv.newC {A : List Addr} {G H : Hp} {p : Addr} {o : HO} (h : H p = none) : Mv G A H G (A ++ [p]) (upd H p o) := ⟨⟨[p], rfl, fun a q => by
    have q : a = p := by simpa using q
    subst q; exact h⟩, (mv_new0 (A := A) h).1, (mv_new0 (A := A) h).2, fun _ h => .inl h⟩
theorem Mv.put {A : List Addr} {G H : Hp} {p : Addr} {o : HO} (h : p ∈ A) : Mv G A H G A (upd H p o) := ⟨⟨[], by rw [List.append_nil], fun a h => absurd h (by simp)⟩, fun a o ha q => by
    rw [upd_ne (fun e => by subst e; exact q h)]; exact ha, fun a ha => by
    by_cases e : a = p
    · subst e; rw [upd_same]; intro z; cases z
    · rw [upd_ne e]; exact ha, fun _ h => .inl h⟩
theorem Mv.cut {A A' : List Addr} {G G' H H' : Hp} (h : Mv G A H G' A' H') : Mv G A H G' A H' := ⟨⟨[], by rw [List.append_nil], fun a h => absurd h (by simp)⟩, h.kp, h.up, h.gr⟩
/-- a thing beside: not of old, not one of the lists -/
theorem Mv.side {A A' : List Addr} {G G' H H' : Hp} {p : Addr} {o : HO} (h : Mv G A H G' A' H') (hp : H p = none) : Mv G A H G' A' (upd H' p o) := ⟨h.pre, fun a u ha q => by
    rw [upd_ne (ne_of_none ha hp)]; exact h.kp a u ha q, fun a ha => by
    rw [upd_ne (fun e => by subst e; exact ha hp)]; exact h.up a ha, h.gr⟩
theorem Sit.side {A : List Addr} {G H : Hp} {μ : MU} {p : Addr} {o : HO} (S : Sit K G H A μ) (hp : p ∉ A) (hg : G p = none) : Sit K G (upd H p o) A μ := by
  have hA : ∀ (k : Nat) (a : Addr), A[k]? = some a → a ≠ p := fun k a h e => by subst e; exact hp (List.mem_of_getElem? h)
  refine ⟨fun b x e => ?_, S.len, S.nd, fun k a ha => ?_, fun k a ds ha hd => ?_⟩
  · rw [upd_ne (ne_of_none e hg)]; exact S.ex _ _ e
  · rw [upd_ne (hA k a ha)]; exact S.liv k a ha
  · obtain ⟨h1, h2⟩ := S.cl k a ds ha hd
    exact ⟨h1, h2.keep (Same.refl G) fun u hu => by rw [upd_ne (hA k a ha)]; exact hu⟩
theorem Rp.mv {G G' H H' : Hp} {A A' : List Addr} {v : V} {x : DE} (h : Rp K G A v x) (e : Same G G') (p : Mv G A H G' A' H') : Rp K G' A' v x := h.mono e p.Pre
theorem RpL.mv {G G' H H' : Hp} {A A' : List Addr} {vs : List V} {xs : List DE} (h : RpL K G A vs xs) (e : Same G G') (p : Mv G A H G' A' H') : RpL K G' A' vs xs := RpL.mono e p.Pre h
theorem InE.mv {G G' H H' : Hp} {A A' : List Addr} {σ : L2.St} {env : LE} (h : InE K G A σ env) (e : Same G G') (p : Mv G A H G' A' H') : InE K G' A' σ env := h.mono e p.Pre
end
end Rw
/-! Rw2: expressions. -/
namespace Rw
open PySem L2

/-! ### each piece's own widest reading -/
def uE (X : Cx) (e : Expr) : TE := fun σ H Q => ∀ (pins : List (Addr × Obj)) (s : Shared), Inv X pins σ H s → wpAny (model X.prog X.w) X.A (eval e X.env) (EP X pins σ Q) X.xe s
def uT (X : Cx) (e : Expr) : TT := fun σ H Q => ∀ (pins : List (Addr × Obj)) (s : Shared), Inv X pins σ H s → wpAny (model X.prog X.w) X.A (isTrue e X.env (eval e X.env)) (TP X pins σ Q) X.xe s
def uW (X : Cx) (e : Expr) : TT := fun σ H Q => ∀ (whole : Sem Value) (pins : List (Addr × Obj)) (s : Shared), Inv X pins σ H s → wpAny (model X.prog X.w) X.A (isTrue e X.env whole) (TP X pins σ Q) X.xe s
def uA (X : Cx) (es : List Expr) : TA := fun σ H Q => ∀ (pos : Pos) (pins : List (Addr × Obj)) (s : Shared), Inv X pins σ H s → wpAny (model X.prog X.w) X.A (spliced (backTo pos (starEach es X.env))) (AP X pins σ Q) X.xe s
theorem pu {X : Cx} {e : Expr} : PE X e (uE X e) := ⟨fun pins s _ _ _ I h => h pins s I⟩
theorem pT {X : Cx} {e : Expr} : PT X e (uT X e) := ⟨fun pins s _ _ _ I h => h pins s I⟩
theorem pW {X : Cx} {e : Expr} : PW X e (uW X e) := ⟨fun wh pins s _ _ _ I h => h wh pins s I⟩
theorem pA {X : Cx} {es : List Expr} : PA X es (uA X es) := ⟨fun pos pins s _ _ _ I h => h pos pins s I⟩

section
variable {K : PySem.W.Frag}
def PoE (K : PySem.W.Frag) (G H : Hp) (A : List Addr) (μ : MU) (r : DE) (Q : VK) : Prop := ∀ v G' H' A', Same G G' → Mv G A H G' A' H' → Sit K G' H' A' μ → Rp K G' A' v r → Q v H'
def PoT (K : PySem.W.Frag) (G H : Hp) (A : List Addr) (μ : MU) (b : Bool) (Q : Bool → Hp → Prop) : Prop := ∀ G' H' A', Same G G' → Mv G A H G' A' H' → Sit K G' H' A' μ → Q b H'
def PoA (K : PySem.W.Frag) (G H : Hp) (A : List Addr) (μ : MU) (rs : List DE) (Q : List V → Hp → Prop) : Prop := ∀ vs G' H' A', Same G G' → Mv G A H G' A' H' → Sit K G' H' A' μ → RpL K G' A' vs rs → Q vs H'
theorem PoE.now {G H : Hp} {A : List Addr} {μ : MU} {r : DE} {Q : VK} (q : PoE K G H A μ r Q) (S : Sit K G H A μ) {v : V} (h : Rp K G A v r) : Q v H := q v G H A (Same.refl G) (Mv.refl G A H) S h
theorem PoE.mono {G G' H H' : Hp} {A A' : List Addr} {μ : MU} {r : DE} {Q : VK} (q : PoE K G H A μ r Q) (e : Same G G') (p : Mv G A H G' A' H') : PoE K G' H' A' μ r Q := fun v G2 H2 A2 e2 p2 => q v G2 H2 A2 (e.trans e2) (p.trans p2)
theorem PoT.mono {G G' H H' : Hp} {A A' : List Addr} {μ : MU} {b : Bool} {Q : Bool → Hp → Prop} (q : PoT K G H A μ b Q) (e : Same G G') (p : Mv G A H G' A' H') : PoT K G' H' A' μ b Q := fun G2 H2 A2 e2 p2 => q G2 H2 A2 (e.trans e2) (p.trans p2)
/-- a new thing of data as the answer -/
theorem PoE.new {G H : Hp} {A : List Addr} {μ : MU} {x : Dt} {Q : VK} (q : PoE K G H A μ (.d x) Q) (S : Sit K G H A μ) {p : Addr} {o : HO} (hp : H p = none) (h : Dp K (upd G p o) (.ref p) x) : Q (.ref p) (upd H p o) :=
  q _ (upd G p o) _ A (same_new (S.ex.free hp)) (Mv.new hp) (S.new hp) (.d h)
theorem PoE.newT {G H : Hp} {A : List Addr} {μ : MU} {xs : List Dt} {Q : VK} (q : PoE K G H A μ (.d (.tuple xs)) Q) (S : Sit K G H A μ) {p : Addr} {vs : List V} (hp : H p = none) (h : DpAll K G vs xs) : Q (.ref p) (upd H p (.tup vs)) :=
  q.new S hp (.tup (.inl (.inl upd_same)) (dpa_mono (same_new (S.ex.free hp)) h))
theorem PoE.newL {G H : Hp} {A : List Addr} {μ : MU} {xs : List Dt} {Q : VK} (q : PoE K G H A μ (.d (.list xs)) Q) (S : Sit K G H A μ) {p : Addr} {vs : List V} (hp : H p = none) (h : DpAll K G vs xs) : Q (.ref p) (upd H p (.lst vs)) :=
  q.new S hp (.lst (.inl (.inl upd_same)) (dpa_mono (same_new (S.ex.free hp)) h))
theorem PoE.newC {G H : Hp} {A : List Addr} {μ : MU} {xs : List Dt} {Q : VK} (q : PoE K G H A (μ ++ [some (Cl.lst xs)]) (.c μ.length) Q) (S : Sit K G H A μ) {p : Addr} {vs : List V} (hp : H p = none) (h : DpAll K G vs xs) : Q (.ref p) (upd H p (.lst vs)) :=
  q _ G _ (A ++ [p]) (Same.refl G) (Mv.newC hp) (S.newC hp h) (.c (by rw [← S.len, List.getElem?_append_right (Nat.le_refl _), Nat.sub_self]; rfl))
end

structure Ev (X : Cx) (e : Expr) (env : LE) (μ μ' : MU) (r : DE) : Prop where
  run : ∀ σ G H A, InE X.K G A σ env → Sit X.K G H A μ → ∀ Q, PoE X.K G H A μ' r Q → uE X e σ H Q
structure EvT (X : Cx) (e : Expr) (env : LE) (μ μ' : MU) (b : Bool) : Prop where
  run : ∀ σ G H A, InE X.K G A σ env → Sit X.K G H A μ → ∀ Q, PoT X.K G H A μ' b Q → uT X e σ H Q
structure EvW (X : Cx) (e : Expr) (env : LE) (μ μ' : MU) (b : Bool) : Prop where
  run : ∀ σ G H A, InE X.K G A σ env → Sit X.K G H A μ → ∀ Q, PoT X.K G H A μ' b Q → uW X e σ H Q
structure EvA (X : Cx) (es : List Expr) (env : LE) (μ μ' : MU) (rs : List DE) : Prop where
  run : ∀ σ G H A, InE X.K G A σ env → Sit X.K G H A μ → ∀ Q, PoA X.K G H A μ' rs Q → uA X es σ H Q
/-- by values -/
def RV (K : PySem.W.Frag) (r : R2) (x y : DE) (μ μ' : MU) (z : DE) : Prop := ∀ G H A v w, Sit K G H A μ → Rp K G A v x → Rp K G A w y → ∀ Q, PoE K G H A μ' z Q → r v w H Q
def RU (K : PySem.W.Frag) (r : V → Hp → VK → Prop) (x : DE) (μ μ' : MU) (z : DE) : Prop := ∀ G H A v, Sit K G H A μ → Rp K G A v x → ∀ Q, PoE K G H A μ' z Q → r v H Q
def RC (K : PySem.W.Frag) (r : List V → Hp → VK → Prop) (xs : List DE) (μ μ' : MU) (z : DE) : Prop := ∀ G H A vs, Sit K G H A μ → RpL K G A vs xs → ∀ Q, PoE K G H A μ' z Q → r vs H Q
/-- what is read of a value now: data, or what a list of ours holds -/
def Dv (μ : MU) : DE → Dt → Prop
  | .d x, y => x = y
  | .c k, y => ∃ ds, μ[k]? = some (some (Cl.lst ds)) ∧ y = .list ds
  | .z _ _ _, _ => False
  | .p ds, y => PyData.tuple ds = y
theorem Rp.dp {K : PySem.W.Frag} {G H : Hp} {A : List Addr} {μ : MU} {v : V} {x : DE} {y : Dt} (S : Sit K G H A μ) (h : Rp K G A v x) (e : Dv μ x y) : Dp K H v y := by
  cases h with
  | d h =>
    cases e
    exact dp_mono S.ex h
  | @c k a h =>
    obtain ⟨ds, h1, rfl⟩ := e
    obtain ⟨_, xs, h2, h3⟩ := S.cell k a ds h h1
    exact .lst (.inl (.inl h2)) (dpa_mono S.ex h3)
  | z _ _ _ => exact e.elim
  | @p _ o _ _ h1 h2 h3 =>
    cases e
    exact .tup (.inl (.inr ⟨o, S.ex _ _ h1⟩)) (dpa_mono S.ex h3)
/-- of a list of either kind: where it stands, and its items as data that stay -/
theorem Rp.lst {K : PySem.W.Frag} {G H : Hp} {A : List Addr} {μ : MU} {v : V} {x : DE} {ds : List Dt} (S : Sit K G H A μ) (h : Rp K G A v x) (e : Dv μ x (.list ds)) : ∃ a xs, v = .ref a ∧ SqL K H a xs ∧ DpAll K G xs ds := by
  cases h with
  | d h =>
    cases e
    cases h with
    | lst h hs => exact ⟨_, _, rfl, S.ex.seq h, hs⟩
  | @c k a h =>
    obtain ⟨es, h1, h2⟩ := e
    cases h2
    obtain ⟨_, xs, h2, h3⟩ := S.cell k a ds h h1
    exact ⟨a, xs, rfl, .inl (.inl h2), h3⟩
  | z _ _ _ => exact e.elim
  | p _ _ _ => cases e
theorem Rp.tup {K : PySem.W.Frag} {G H : Hp} {A : List Addr} {μ : MU} {v : V} {ds : List Dt} (S : Sit K G H A μ) (h : Rp K G A v (.d (.tuple ds))) : ∃ a xs, v = .ref a ∧ SqT K H a xs ∧ DpAll K G xs ds := by
  cases h with
  | d h =>
    cases h with
    | tup h hs => exact ⟨_, _, rfl, sqt_mono S.ex h, hs⟩
theorem Rp.int {K : PySem.W.Frag} {G : Hp} {A : List Addr} {v : V} {i : Int} (h : Rp K G A v (.d (.int i))) : v = .int i := by
  cases h with | d h => cases h; rfl
theorem Rp.bl {K : PySem.W.Frag} {G : Hp} {A : List Addr} {v : V} {i : Bool} (h : Rp K G A v (.d (.bool i))) : v = .bl i := by
  cases h with | d h => cases h; rfl
theorem Rp.str {K : PySem.W.Frag} {G : Hp} {A : List Addr} {v : V} {i : Str} (h : Rp K G A v (.d (.str i))) : v = .str i := by
  cases h with | d h => cases h; rfl
theorem Rp.one {K : PySem.W.Frag} {G : Hp} {A : List Addr} {vs : List V} {x : DE} (h : RpL K G A vs [x]) : ∃ v, vs = [v] ∧ Rp K G A v x := by
  cases h with | cons h hs => cases hs; exact ⟨_, rfl, h⟩
theorem Rp.two {K : PySem.W.Frag} {G : Hp} {A : List Addr} {vs : List V} {x y : DE} (h : RpL K G A vs [x, y]) : ∃ v w, vs = [v, w] ∧ Rp K G A v x ∧ Rp K G A w y := by
  cases h with | cons h hs => cases hs with | cons h' hs => cases hs; exact ⟨_, _, rfl, h, h'⟩

section
variable {X : Cx} {env : LE} {μ μ1 μ2 μ3 : MU} {x y z : DE} {a b c e o : Expr} {es : List Expr} {pos p : Pos} {i j : Int}

/-! ### names, constants -/
theorem ev_var (k : Nat) {nm : Str} (h : env[k]? = some (some x)) (hN : X.N[k]? = some nm) (hv : Vis X.env.scope nm) (hd : (nm == ("__debug__" : Str)) = false := by decide) (hcd : (nm == ("__classdict__" : Str)) = false := by decide) : Ev X (.Name nm pos) env μ μ x :=
  .mk fun σ G H A E S Q q pins s I => by
    obtain ⟨v, h1, h2⟩ := E.2 k x h
    exact (pe_var hN hv hd hcd).run pins s σ H Q I ⟨v, h1, q.now S h2⟩
theorem ev_k {v : V} {d : Dt} (h : PE X e (tC v)) (r : ∀ G, Dp X.K G v d) : Ev X e env μ μ (.d d) := .mk fun σ G H A E S Q q pins s I => h.run pins s σ H Q I (q.now S (.d (r G)))
theorem ev_int {j} : Ev X (.Constant (.int i) j pos) env μ μ (.d (.int i)) := ev_k pe_int fun _ => .int i
theorem ev_bl {b : Bool} {j} : Ev X (.Constant (.bool b) j pos) env μ μ (.d (.bool b)) := ev_k pe_bl fun _ => .bl b
theorem ev_non {j} : Ev X (.Constant .none j pos) env μ μ (.d .none) := ev_k pe_non fun _ => .non
theorem ev_str {x : Str} {j} : Ev X (.Constant (.str x) j pos) env μ μ (.d (.str x)) := ev_k pe_str fun _ => .str x
/-- a module's constant -/
theorem ev_glob {nm : Str} {v : V} {u : Value} {d : Dt} (hg : Gl X nm) (hm : X.mg nm = some u) (r : RelV v u) (h : ∀ G, Dp X.K G v d) (hd : (nm == ("__debug__" : Str)) = false := by decide) : Ev X (.Name nm pos) env μ μ (.d d) := ev_k (pe_glob hg hm r hd) h

/-! ### operators -/
theorem ev_op {op : Operator} {r : R2} (ho : OpR X (binaryOp op) r) (ha : Ev X a env μ μ1 x) (hb : Ev X b env μ1 μ2 y) (hr : RV X.K r x y μ2 μ3 z) : Ev X (.BinOp a op b pos) env μ μ3 z := .mk fun σ G H A E S Q q pins s I =>
  (pe_op ho pu pu).run pins s σ H Q I (ha.run σ G H A E S _ fun v G1 H1 A1 e1 p1 S1 r1 => hb.run σ G1 H1 A1 (E.mv e1 p1) S1 _ fun w G2 H2 A2 e2 p2 S2 r2 =>
    hr G2 H2 A2 v w S2 (r1.mv e2 p2) r2 Q (q.mono (e1.trans e2) (p1.trans p2)))
theorem ev_un {op : UnaryOp} {r : V → Hp → VK → Prop} (ho : UnR X (unaryOp op) r) (ha : Ev X a env μ μ1 x) (hr : RU X.K r x μ1 μ2 z) : Ev X (.UnaryOp op a pos) env μ μ2 z := .mk fun σ G H A E S Q q pins s I =>
  (pe_un ho pu).run pins s σ H Q I (ha.run σ G H A E S _ fun v G1 H1 A1 e1 p1 S1 r1 => hr G1 H1 A1 v S1 r1 Q (q.mono e1 p1))
theorem rv_I0 {K : PySem.W.Frag} {g : Int → Int → Int} : RV K (rI0 fun i j => .int (g i j)) (.d (.int i)) (.d (.int j)) μ μ (.d (.int (g i j))) := fun G H A v w S r1 r2 Q q => ⟨i, j, r1.int, r2.int, q.now S (.d (.int _))⟩
theorem rv_I {K : PySem.W.Frag} {C : Int → Int → Prop} {g : Int → Int → Int} (hc : C i j) : RV K (rI C fun i j => .int (g i j)) (.d (.int i)) (.d (.int j)) μ μ (.d (.int (g i j))) := fun G H A v w S r1 r2 Q q => ⟨i, j, r1.int, r2.int, hc, q.now S (.d (.int _))⟩
theorem ev_add (ha : Ev X a env μ μ1 (.d (.int i))) (hb : Ev X b env μ1 μ2 (.d (.int j))) : Ev X (.BinOp a .Add b pos) env μ μ2 (.d (.int (i + j))) := ev_op op_add ha hb rv_I0
theorem ev_sub (ha : Ev X a env μ μ1 (.d (.int i))) (hb : Ev X b env μ1 μ2 (.d (.int j))) : Ev X (.BinOp a .Sub b pos) env μ μ2 (.d (.int (i - j))) := ev_op op_sub ha hb rv_I0
theorem ev_mul (ha : Ev X a env μ μ1 (.d (.int i))) (hb : Ev X b env μ1 μ2 (.d (.int j))) (hc : CMulW i j) : Ev X (.BinOp a .Mult b pos) env μ μ2 (.d (.int (i * j))) := ev_op op_mulW ha hb (rv_I hc)
theorem ev_div (ha : Ev X a env μ μ1 (.d (.int i))) (hb : Ev X b env μ1 μ2 (.d (.int j))) (hc : CDivW i j) : Ev X (.BinOp a .FloorDiv b pos) env μ μ2 (.d (.int (i / j))) := ev_op op_fdivW ha hb (rv_I hc)
theorem ev_mod (ha : Ev X a env μ μ1 (.d (.int i))) (hb : Ev X b env μ1 μ2 (.d (.int j))) (hc : 0 < j) : Ev X (.BinOp a .Mod b pos) env μ μ2 (.d (.int (i % j))) := ev_op op_mod ha hb (rv_I hc)
theorem ev_pow (ha : Ev X a env μ μ1 (.d (.int i))) (hb : Ev X b env μ1 μ2 (.d (.int j))) (hc : CPow i j) : Ev X (.BinOp a .Pow b pos) env μ μ2 (.d (.int (i ^ j.toNat))) := ev_op op_pow ha hb (rv_I hc)
theorem ev_neg (ha : Ev X a env μ μ1 (.d (.int i))) : Ev X (.UnaryOp .USub a pos) env μ μ1 (.d (.int (-i))) := ev_un un_neg ha fun G H A v S r Q q => ⟨i, r.int, q.now S (.d (.int _))⟩
theorem ev_addS {u w : Str} (ha : Ev X a env μ μ1 (.d (.str u))) (hb : Ev X b env μ1 μ2 (.d (.str w))) (hc : u.length + w.length ≤ sizeLine) : Ev X (.BinOp a .Add b pos) env μ μ2 (.d (.str (u ++ w))) :=
  ev_op op_add_str ha hb fun G H A v w S r1 r2 Q q => ⟨_, _, r1.str, r2.str, hc, q.now S (.d (.str _))⟩
/-- tuple + tuple -/
theorem ev_addT {us ws : List Dt} (ha : Ev X a env μ μ1 (.d (.tuple us))) (hb : Ev X b env μ1 μ2 (.d (.tuple ws))) (hc : us.length + ws.length ≤ sizeLine) : Ev X (.BinOp a .Add b pos) env μ μ2 (.d (.tuple (us ++ ws))) := by
  refine ev_op op_catA ha hb fun G H A v w S r1 r2 Q q => ?_
  obtain ⟨p1, xs, rfl, t1, d1⟩ := r1.tup S
  obtain ⟨p2, ys, rfl, t2, d2⟩ := r2.tup S
  have en : ∀ {us : List Dt}, DpAll X.K G [] us → us = [] := fun h => by cases h; rfl
  refine ⟨p1, p2, xs, ys, rfl, rfl, t1, t2, by rw [dpa_len d1, dpa_len d2]; exact hc, fun e => ?_, fun _ e => ?_, fun _ _ p hp => q.newT S hp (dpa_app d1 d2)⟩
  · subst e
    rw [en d1] at q
    exact q.now S r2
  · subst e
    rw [en d2, List.append_nil] at q
    exact q.now S r1
/-- list + list: a new one -/
theorem ev_addL {us ws : List Dt} (ha : Ev X a env μ μ1 x) (hb : Ev X b env μ1 μ2 y) (e1 : Dv μ2 x (.list us)) (e2 : Dv μ2 y (.list ws)) (hc : us.length + ws.length ≤ sizeLine)
    (ho : OpR X (binaryOp .Add) (fun v w H Q => ∃ l b xs zs, v = .ref l ∧ w = .ref b ∧ SqL X.K H l xs ∧ SqL X.K H b zs ∧ xs.length + zs.length ≤ sizeLine ∧ ∀ p, H p = none → Q (.ref p) (upd H p (.lst (xs ++ zs))))) :
    Ev X (.BinOp a .Add b pos) env μ μ2 (.d (.list (us ++ ws))) := by
  refine ev_op ho ha hb fun G H A v w S r1 r2 Q q => ?_
  obtain ⟨p1, xs, rfl, t1, d1⟩ := r1.lst S e1
  obtain ⟨p2, ys, rfl, t2, d2⟩ := r2.lst S e2
  exact ⟨p1, p2, xs, ys, rfl, rfl, t1, t2, by rw [dpa_len d1, dpa_len d2]; exact hc, fun p hp => q.newL S hp (dpa_app d1 d2)⟩

/-! ### comparisons -/
def CmpD (X : Cx) (op : CmpOp) (x y : DE) (μ : MU) (b : Bool) : Prop := ∃ r, OpR X (compareOp op) r ∧ RV X.K r x y μ μ (.d (.bool b))
theorem rv_B0 {K : PySem.W.Frag} {g : Int → Int → Bool} : RV K (rI0 fun i j => .bl (g i j)) (.d (.int i)) (.d (.int j)) μ μ (.d (.bool (g i j))) := fun G H A v w S r1 r2 Q q => ⟨i, j, r1.int, r2.int, q.now S (.d (.bl _))⟩
theorem c_lt : CmpD X .Lt (.d (.int i)) (.d (.int j)) μ (decide (i < j)) := ⟨_, op_lt, rv_B0⟩
theorem c_le : CmpD X .LtE (.d (.int i)) (.d (.int j)) μ (decide (i ≤ j)) := ⟨_, op_le, rv_B0⟩
theorem c_gt : CmpD X .Gt (.d (.int i)) (.d (.int j)) μ (decide (j < i)) := ⟨_, op_gt, rv_B0⟩
theorem c_ge : CmpD X .GtE (.d (.int i)) (.d (.int j)) μ (decide (j ≤ i)) := ⟨_, op_ge, rv_B0⟩
theorem c_leS {u w : Str} : CmpD X .LtE (.d (.str u)) (.d (.str w)) μ (!decide (w.cps.toList < u.cps.toList)) := ⟨_, op_le_str, fun G H A v w S r1 r2 Q q => ⟨_, _, r1.str, r2.str, q.now S (.d (.bl _))⟩⟩
theorem c_eq {d f : Dt} (hu : X.A.units + 64 < cLine) (e1 : Dv μ x d) (e2 : Dv μ y f) (h1 : SeqAt.shaped d = true) (h2 : SeqAt.shaped f = true) : CmpD X .Eq x y μ (PyData.eqv d f) :=
  ⟨_, op_eqD hu, fun G H A v w S r1 r2 Q q => ⟨d, f, r1.dp S e1, r2.dp S e2, h1, h2, q.now S (.d (.bl _))⟩⟩
theorem c_ne {d f : Dt} (hu : X.A.units + 64 < cLine) (e1 : Dv μ x d) (e2 : Dv μ y f) (h1 : SeqAt.shaped d = true) (h2 : SeqAt.shaped f = true) : CmpD X .NotEq x y μ (!PyData.eqv d f) :=
  ⟨_, op_neD hu, fun G H A v w S r1 r2 Q q => ⟨d, f, r1.dp S e1, r2.dp S e2, h1, h2, q.now S (.d (.bl _))⟩⟩
def isNon : DE → Bool
  | .d .none => true
  | _ => false
theorem Rp.isN {K : PySem.W.Frag} {G : Hp} {A : List Addr} {v : V} {x : DE} (h : Rp K G A v x) : decide (v = .non) = isNon x := by
  cases h with
  | d h => cases h <;> rfl
  | c h => rfl
  | z _ _ _ => rfl
  | p _ _ _ => rfl
theorem c_isN : CmpD X .Is x (.d .none) μ (isNon x) := ⟨_, op_isN, fun G H A v w S r1 r2 Q q => ⟨by cases r2 with | d h => cases h; rfl, by rw [r1.isN]; exact q.now S (.d (.bl _))⟩⟩
theorem c_notN : CmpD X .IsNot x (.d .none) μ (!isNon x) := ⟨_, op_notN, fun G H A v w S r1 r2 Q q => ⟨by cases r2 with | d h => cases h; rfl, by rw [r1.isN]; exact q.now S (.d (.bl _))⟩⟩
theorem ev_cmp {op : CmpOp} {k : Bool} (ha : Ev X a env μ μ1 x) (hb : Ev X b env μ1 μ2 y) (hc : CmpD X op x y μ2 k) (hm : behindInMarks op b = false) : Ev X (.Compare a [op] [b] pos) env μ μ2 (.d (.bool k)) := by
  obtain ⟨r, ho, hr⟩ := hc
  exact .mk fun σ G H A E S Q q pins s I =>
    (pe_cmpR ho pu pu hm).run pins s σ H Q I (ha.run σ G H A E S _ fun v G1 H1 A1 e1 p1 S1 r1 => hb.run σ G1 H1 A1 (E.mv e1 p1) S1 _ fun w G2 H2 A2 e2 p2 S2 r2 =>
      hr G2 H2 A2 v w S2 (r1.mv e2 p2) r2 Q (q.mono (e1.trans e2) (p1.trans p2)))
theorem et_cmp {op : CmpOp} {k : Bool} (ha : Ev X a env μ μ1 x) (hb : Ev X b env μ1 μ2 y) (hc : CmpD X op x y μ2 k) (hm : behindInMarks op b = false) : EvT X (.Compare a [op] [b] pos) env μ μ2 k := by
  obtain ⟨r, ho, hr⟩ := hc
  exact .mk fun σ G H A E S Q q pins s I =>
    (pt_cmpR ho pu pu hm).run pins s σ H Q I (ha.run σ G H A E S _ fun v G1 H1 A1 e1 p1 S1 r1 => hb.run σ G1 H1 A1 (E.mv e1 p1) S1 _ fun w G2 H2 A2 e2 p2 S2 r2 =>
      hr G2 H2 A2 v w S2 (r1.mv e2 p2) r2 _ fun v3 G3 H3 A3 e3 p3 S3 r3 => ⟨k, r3.bl, q G3 H3 A3 ((e1.trans e2).trans e3) ((p1.trans p2).trans p3) S3⟩)
/-- a op b op' c, nothing changing on the way -/
theorem chain_val {op op' : CmpOp} {r r' : R2} {k k' : Bool} (ha : Ev X a env μ μ x) (hb : Ev X b env μ μ y) (hc : k = true → Ev X c env μ μ z) (h1 : RV X.K r x y μ μ (.d (.bool k))) (h2 : k = true → RV X.K r' y z μ μ (.d (.bool k'))) :
    ∀ σ G H A, InE X.K G A σ env → Sit X.K G H A μ → ∀ Q, PoE X.K G H A μ (.d (.bool (k && k'))) Q → tChain r r' (uE X a) (uE X b) (uE X c) σ H Q := fun σ G H A E S Q q =>
  ha.run σ G H A E S _ fun v G1 H1 A1 e1 p1 S1 r1 => hb.run σ G1 H1 A1 (E.mv e1 p1) S1 _ fun w G2 H2 A2 e2 p2 S2 r2 =>
    h1 G2 H2 A2 v w S2 (r1.mv e2 p2) r2 _ fun v3 G3 H3 A3 e3 p3 S3 r3 => ⟨k, r3.bl, by
      have E3 := ((E.mv e1 p1).mv e2 p2).mv e3 p3
      have q3 : PoE X.K G3 H3 A3 μ (.d (.bool (k && k'))) Q := q.mono ((e1.trans e2).trans e3) ((p1.trans p2).trans p3)
      cases k with
      | false => exact q3.now S3 (.d (.bl _))
      | true => exact (hc rfl).run σ G3 H3 A3 E3 S3 _ fun v4 G4 H4 A4 e4 p4 S4 r4 => h2 rfl G4 H4 A4 w v4 S4 ((r2.mv e3 p3).mv e4 p4) r4 Q (q3.mono e4 p4)⟩
theorem ev_chain {op op' : CmpOp} {k k' : Bool} (ha : Ev X a env μ μ x) (hb : Ev X b env μ μ y) (hc : k = true → Ev X c env μ μ z) (h1 : CmpD X op x y μ k) (h2 : CmpD X op' y z μ k') (hm : lastMarks [op, op'] [b, c] = false) : Ev X (.Compare a [op, op'] [b, c] pos) env μ μ (.d (.bool (k && k'))) := by
  obtain ⟨r, o1, h1⟩ := h1
  obtain ⟨r', o2, h2⟩ := h2
  exact .mk fun σ G H A E S Q q pins s I => (pe_chain o1 o2 pu pu pu hm).run pins s σ H Q I (chain_val (op := op) (op' := op') ha hb hc h1 (fun _ => h2) σ G H A E S Q q)
theorem et_chain {op op' : CmpOp} {k k' : Bool} (ha : Ev X a env μ μ x) (hb : Ev X b env μ μ y) (hc : k = true → Ev X c env μ μ z) (h1 : CmpD X op x y μ k) (h2 : CmpD X op' y z μ k') (hm : lastMarks [op, op'] [b, c] = false) : EvT X (.Compare a [op, op'] [b, c] pos) env μ μ (k && k') := by
  obtain ⟨r, o1, h1⟩ := h1
  obtain ⟨r', o2, h2⟩ := h2
  exact .mk fun σ G H A E S Q q pins s I => (pt_chain o1 o2 pu pu pu hm).run pins s σ H Q I (chain_val (op := op) (op' := op') ha hb hc h1 (fun _ => h2) σ G H A E S _ fun v G1 H1 A1 e1 p1 S1 r1 => ⟨_, r1.bl, q G1 H1 A1 e1 p1 S1⟩)

/-! ### tests -/
theorem et_val {k : Bool} (h : Ev X e env μ μ1 (.d (.bool k))) (he : ∀ whole, isTrue e X.env whole = (do let v ← whole; standAt e.pos; holding [v] (truthy v))) : EvT X e env μ μ1 k := .mk fun σ G H A E S Q q pins s I =>
  (pt_val pu he).run pins s σ H Q I (h.run σ G H A E S _ fun v G1 H1 A1 e1 p1 S1 r1 => ⟨k, r1.bl, q G1 H1 A1 e1 p1 S1⟩)
theorem et_w {k : Bool} (h : EvW X e env μ μ1 k) : EvT X e env μ μ1 k := .mk fun σ G H A E S Q q pins s I => h.run σ G H A E S Q q _ pins s I
theorem ew_and1 {k : Bool} (h : EvT X a env μ μ1 k) : EvW X (.BoolOp .And [a] pos) env μ μ1 k := .mk fun σ G H A E S Q q wh pins s I => (pw_and1 pT).run wh pins s σ H Q I (h.run σ G H A E S Q q)
theorem ew_or1 {k : Bool} (h : EvT X a env μ μ1 k) : EvW X (.BoolOp .Or [a] pos) env μ μ1 k := .mk fun σ G H A E S Q q wh pins s I => (pw_or1 pT).run wh pins s σ H Q I (h.run σ G H A E S Q q)
theorem ew_and {k k' : Bool} (h : EvT X a env μ μ1 k) (h' : k = true → EvW X (.BoolOp .And (b :: es) pos) env μ1 μ2 k') (hf : k = false → μ2 = μ1) : EvW X (.BoolOp .And (a :: b :: es) pos) env μ μ2 (k && k') := .mk fun σ G H A E S Q q wh pins s I =>
  (pw_and pT pW).run wh pins s σ H Q I (h.run σ G H A E S _ fun G1 H1 A1 e1 p1 S1 => by
    cases k with
    | true => exact (h' rfl).run σ G1 H1 A1 (E.mv e1 p1) S1 Q (q.mono e1 p1)
    | false =>
      cases hf rfl
      exact q G1 H1 A1 e1 p1 S1)
theorem ew_or {k k' : Bool} (h : EvT X a env μ μ1 k) (h' : k = false → EvW X (.BoolOp .Or (b :: es) pos) env μ1 μ2 k') (hf : k = true → μ2 = μ1) : EvW X (.BoolOp .Or (a :: b :: es) pos) env μ μ2 (k || k') := .mk fun σ G H A E S Q q wh pins s I =>
  (pw_or pT pW).run wh pins s σ H Q I (h.run σ G H A E S _ fun G1 H1 A1 e1 p1 S1 => by
    cases k with
    | false => exact (h' rfl).run σ G1 H1 A1 (E.mv e1 p1) S1 Q (q.mono e1 p1)
    | true =>
      cases hf rfl
      exact q G1 H1 A1 e1 p1 S1)
theorem et_not {k : Bool} (h : EvT X a env μ μ1 k) : EvT X (.UnaryOp .Not a pos) env μ μ1 (!k) := .mk fun σ G H A E S Q q pins s I => (pt_not pT).run pins s σ H Q I (h.run σ G H A E S _ fun G1 H1 A1 e1 p1 S1 => q G1 H1 A1 e1 p1 S1)
theorem ev_one {op} (h : Ev X a env μ μ1 x) : Ev X (.BoolOp op [a] pos) env μ μ1 x := .mk fun σ G H A E S Q q pins s I => (pe_one pu).run pins s σ H Q I (h.run σ G H A E S Q q)
theorem ev_and {k : Bool} {r : DE} (h : Ev X a env μ μ1 (.d (.bool k))) (h' : k = true → Ev X (.BoolOp .And (b :: es) pos) env μ1 μ2 r) (hf : k = false → μ2 = μ1 ∧ r = .d (.bool false)) : Ev X (.BoolOp .And (a :: b :: es) pos) env μ μ2 r := .mk fun σ G H A E S Q q pins s I =>
  (pe_and pu pu).run pins s σ H Q I (h.run σ G H A E S _ fun v G1 H1 A1 e1 p1 S1 r1 => ⟨k, r1.bl, by
    cases k with
    | true => exact (h' rfl).run σ G1 H1 A1 (E.mv e1 p1) S1 Q (q.mono e1 p1)
    | false =>
      obtain ⟨rfl, rfl⟩ := hf rfl
      exact q _ G1 H1 A1 e1 p1 S1 (.d (.bl _))⟩)
theorem ev_or {k : Bool} {r : DE} (h : Ev X a env μ μ1 (.d (.bool k))) (h' : k = false → Ev X (.BoolOp .Or (b :: es) pos) env μ1 μ2 r) (hf : k = true → μ2 = μ1 ∧ r = .d (.bool true)) : Ev X (.BoolOp .Or (a :: b :: es) pos) env μ μ2 r := .mk fun σ G H A E S Q q pins s I =>
  (pe_or pu pu).run pins s σ H Q I (h.run σ G H A E S _ fun v G1 H1 A1 e1 p1 S1 r1 => ⟨k, r1.bl, by
    cases k with
    | false => exact (h' rfl).run σ G1 H1 A1 (E.mv e1 p1) S1 Q (q.mono e1 p1)
    | true =>
      obtain ⟨rfl, rfl⟩ := hf rfl
      exact q _ G1 H1 A1 e1 p1 S1 (.d (.bl _))⟩)
theorem ev_not {k : Bool} (h : Ev X a env μ μ1 (.d (.bool k))) : Ev X (.UnaryOp .Not a pos) env μ μ1 (.d (.bool (!k))) := .mk fun σ G H A E S Q q pins s I =>
  (pe_not pu).run pins s σ H Q I (h.run σ G H A E S _ fun v G1 H1 A1 e1 p1 S1 r1 => ⟨k, r1.bl, q _ G1 H1 A1 e1 p1 S1 (.d (.bl _))⟩)
theorem ev_if {k : Bool} (h : EvT X c env μ μ1 k) (h1 : k = true → Ev X a env μ1 μ2 x) (h2 : k = false → Ev X b env μ1 μ2 x) : Ev X (.IfExp c a b pos) env μ μ2 x := .mk fun σ G H A E S Q q pins s I =>
  (pe_ifExp pT pu pu).run pins s σ H Q I (h.run σ G H A E S _ fun G1 H1 A1 e1 p1 S1 => by
    cases k with
    | true => exact (h1 rfl).run σ G1 H1 A1 (E.mv e1 p1) S1 Q (q.mono e1 p1)
    | false => exact (h2 rfl).run σ G1 H1 A1 (E.mv e1 p1) S1 Q (q.mono e1 p1))

/-! ### argument lists, displays -/
theorem ea_nil : EvA X [] env μ μ [] := .mk fun σ G H A E S Q q ps pins s I => (pa_nil (X := X)).run ps pins s σ H Q I (q [] G H A (Same.refl G) (Mv.refl G A H) S .nil)
theorem ea_cons {xs : List DE} (h : Ev X e env μ μ1 x) (h' : EvA X es env μ1 μ2 xs) (hs : starEach (e :: es) X.env = (false, eval e X.env) :: starEach es X.env := by rfl) : EvA X (e :: es) env μ μ2 (x :: xs) := .mk fun σ G H A E S Q q ps pins s I =>
  (pa_cons pu pA hs).run ps pins s σ H Q I (h.run σ G H A E S _ fun v G1 H1 A1 e1 p1 S1 r1 => h'.run σ G1 H1 A1 (E.mv e1 p1) S1 _ fun vs G2 H2 A2 e2 p2 S2 r2 => q _ G2 H2 A2 (e1.trans e2) (p1.trans p2) S2 (.cons (r1.mv e2 p2) r2))
theorem ev_tup {j} {ds : List Dt} (h : EvA X es env μ μ1 (ds.map .d)) (hl : ds.length ≤ sizeLine) : Ev X (.Tuple es j pos) env μ μ1 (.d (.tuple ds)) := .mk fun σ G H A E S Q q pins s I =>
  (pe_tup pA).run pins s σ H Q I (h.run σ G H A E S _ fun vs G1 H1 A1 e1 p1 S1 r1 => ⟨by rw [dpa_len r1.data]; exact hl, fun p hp => (q.mono e1 p1).newT S1 hp r1.data⟩)
theorem ev_lst {ds : List Dt} (h : EvA X es env μ μ1 (ds.map .d)) (hl : ds.length ≤ sizeLine) : Ev X (.List es pos) env μ μ1 (.d (.list ds)) := .mk fun σ G H A E S Q q pins s I =>
  (pe_lst pA).run pins s σ H Q I (h.run σ G H A E S _ fun vs G1 H1 A1 e1 p1 S1 r1 => ⟨by rw [dpa_len r1.data]; exact hl, fun p hp => (q.mono e1 p1).newL S1 hp r1.data⟩)
/-- [..], to be changed later -/
theorem ev_lstC {ds : List Dt} (h : EvA X es env μ μ1 (ds.map .d)) (hl : ds.length ≤ sizeLine) : Ev X (.List es pos) env μ (μ1 ++ [some (Cl.lst ds)]) (.c μ1.length) := .mk fun σ G H A E S Q q pins s I =>
  (pe_lst pA).run pins s σ H Q I (h.run σ G H A E S _ fun vs G1 H1 A1 e1 p1 S1 r1 => ⟨by rw [dpa_len r1.data]; exact hl, fun p hp => (q.mono e1 p1).newC S1 hp r1.data⟩)
/-- what changed no more -/
theorem ev_freeze {k : Nat} {ds : List Dt} (h : Ev X e env μ μ1 (.c k)) (hk : μ1[k]? = some (some (Cl.lst ds))) : Ev X e env μ (μ1.set k none) (.d (.list ds)) := .mk fun σ G H A E S Q q =>
  h.run σ G H A E S Q fun v G1 H1 A1 e1 p1 S1 r1 => by
    cases r1 with
    | c ha =>
      obtain ⟨G2, e2, g2, S2, d2⟩ := S1.freeze ha hk
      refine q _ G2 H1 A1 (e1.trans e2) (p1.trans ⟨⟨[], by rw [List.append_nil], fun a h => absurd h (by simp)⟩, fun _ _ h _ => h, fun _ h => h, fun b hb => ?_⟩) S2 (.d d2)
      rcases g2 b hb with z | z
      · exact .inl z
      · exact .inr (.inr z)

/-! ### indices, slices -/
theorem atI_dp {K : PySem.W.Frag} {G : Hp} {xs : List V} {ds : List Dt} {d : Dt} (h : DpAll K G xs ds) (e : atI ds i = some d) : ∃ v, atI xs i = some v ∧ Dp K G v d := by
  unfold atI at e ⊢
  rw [dpa_len h]
  cases q : ixN ds.length i with
  | none => rw [q] at e; cases e
  | some j =>
    rw [q] at e
    exact dpa_get h e
theorem ev_ixT {ds : List Dt} {d : Dt} (ha : Ev X a env μ μ1 (.d (.tuple ds))) (hb : Ev X b env μ1 μ2 (.d (.int i))) (h : atI ds i = some d) (hp : PlainIx b := by intro _ _; rfl) : Ev X (.Subscript a b pos) env μ μ2 (.d d) := .mk fun σ G H A E S Q q pins s I =>
  (pe_ix ix_tup pu pu hp).run pins s σ H Q I (ha.run σ G H A E S _ fun v G1 H1 A1 e1 p1 S1 r1 => hb.run σ G1 H1 A1 (E.mv e1 p1) S1 _ fun w G2 H2 A2 e2 p2 S2 r2 => by
    obtain ⟨p, xs, rfl, t, dd⟩ := (r1.mv e2 p2).tup S2
    obtain ⟨v', h1, h2⟩ := atI_dp dd h
    exact ⟨p, xs, i, v', rfl, r2.int, t, h1, (q.mono (e1.trans e2) (p1.trans p2)).now S2 (.d h2)⟩)
theorem ev_ixL {ds : List Dt} {d : Dt} (ha : Ev X a env μ μ1 x) (hb : Ev X b env μ1 μ2 (.d (.int i))) (hx : Dv μ2 x (.list ds)) (h : atI ds i = some d) (hp : PlainIx b := by intro _ _; rfl) : Ev X (.Subscript a b pos) env μ μ2 (.d d) := .mk fun σ G H A E S Q q pins s I =>
  (pe_ix ix_list pu pu hp).run pins s σ H Q I (ha.run σ G H A E S _ fun v G1 H1 A1 e1 p1 S1 r1 => hb.run σ G1 H1 A1 (E.mv e1 p1) S1 _ fun w G2 H2 A2 e2 p2 S2 r2 => by
    obtain ⟨p, xs, rfl, t, dd⟩ := (r1.mv e2 p2).lst S2 hx
    obtain ⟨v', h1, h2⟩ := atI_dp dd h
    exact ⟨p, xs, i, v', rfl, r2.int, t, h1, (q.mono (e1.trans e2) (p1.trans p2)).now S2 (.d h2)⟩)
/-- a part of a slice -/
def uO (X : Cx) : Option Expr → TO
  | none => tNoPart
  | some e => tPart (uE X e)
theorem pO {X : Cx} : ∀ {o : Option Expr}, PO X o (uO X o)
  | none => po_none
  | some _ => po_some pu
structure EvO (X : Cx) (o : Option Expr) (env : LE) (μ μ' : MU) (k : Option Int) : Prop where
  run : ∀ σ G H A, InE X.K G A σ env → Sit X.K G H A μ → ∀ Q : Option Int → Hp → Prop, (∀ G' H' A', Same G G' → Mv G A H G' A' H' → Sit X.K G' H' A' μ' → Q k H') → uO X o σ H Q
theorem eo_none : EvO X none env μ μ none := .mk fun σ G H A E S Q q => q G H A (Same.refl G) (Mv.refl G A H) S
theorem eo_some (h : Ev X e env μ μ1 (.d (.int i))) : EvO X (some e) env μ μ1 (some i) := .mk fun σ G H A E S Q q => h.run σ G H A E S _ fun v G1 H1 A1 e1 p1 S1 r1 => ⟨i, r1.int, q G1 H1 A1 e1 p1 S1⟩
def cutD (xs : List Dt) (lo hi : Option Int) : List Dt := (xs.drop (HT.sIx xs.length 0 lo)).take (HT.sIx xs.length xs.length hi - HT.sIx xs.length 0 lo)
theorem dpa_cut {K : PySem.W.Frag} {G : Hp} {xs : List V} {ds : List Dt} (h : DpAll K G xs ds) (lo hi : Option Int) : DpAll K G (cutV xs lo hi) (cutD ds lo hi) := by
  unfold cutV cutD
  rw [dpa_len h]
  exact dpa_take _ (dpa_drop _ h)
theorem ev_slT {ds : List Dt} {lo hi : Option Expr} {l h : Option Int} {p2 : Pos} (ha : Ev X a env μ μ1 (.d (.tuple ds))) (h1 : EvO X lo env μ1 μ2 l) (h2 : EvO X hi env μ2 μ3 h) : Ev X (.Subscript a (.Slice lo hi none p2) pos) env μ μ3 (.d (.tuple (cutD ds l h))) := .mk fun σ G H A E S Q q pins s I =>
  (pe_slice sl_tupA pu pO pO).run pins s σ H Q I (ha.run σ G H A E S _ fun v G1 H1 A1 e1 p1 S1 r1 => h1.run σ G1 H1 A1 (E.mv e1 p1) S1 _ fun G2 H2 A2 e2 p2 S2 => h2.run σ G2 H2 A2 ((E.mv e1 p1).mv e2 p2) S2 _ fun G3 H3 A3 e3 p3 S3 => by
    have r3 := (r1.mv e2 p2).mv e3 p3
    have q3 := q.mono ((e1.trans e2).trans e3) ((p1.trans p2).trans p3)
    obtain ⟨p, xs, rfl, t, dd⟩ := r3.tup S3
    refine ⟨p, xs, rfl, t, fun e => ?_, fun _ pp hp => q3.newT S3 hp (dpa_cut dd l h)⟩
    have : cutD ds l h = ds := by
      unfold cutD
      rw [← dpa_len dd, e.1, e.2, List.drop_zero, Nat.sub_zero, dpa_len dd]
      exact List.take_length
    rw [this] at q3
    exact q3.now S3 r3)
theorem ev_slL {ds : List Dt} {lo hi : Option Expr} {l h : Option Int} {p2 : Pos} (ha : Ev X a env μ μ1 x) (hx : Dv μ3 x (.list ds)) (h1 : EvO X lo env μ1 μ2 l) (h2 : EvO X hi env μ2 μ3 h) : Ev X (.Subscript a (.Slice lo hi none p2) pos) env μ μ3 (.d (.list (cutD ds l h))) := .mk fun σ G H A E S Q q pins s I =>
  (pe_slice sl_list pu pO pO).run pins s σ H Q I (ha.run σ G H A E S _ fun v G1 H1 A1 e1 p1 S1 r1 => h1.run σ G1 H1 A1 (E.mv e1 p1) S1 _ fun G2 H2 A2 e2 p2 S2 => h2.run σ G2 H2 A2 ((E.mv e1 p1).mv e2 p2) S2 _ fun G3 H3 A3 e3 p3 S3 => by
    have r3 := (r1.mv e2 p2).mv e3 p3
    have q3 := q.mono ((e1.trans e2).trans e3) ((p1.trans p2).trans p3)
    obtain ⟨p, xs, rfl, t, dd⟩ := r3.lst S3 hx
    exact ⟨p, xs, rfl, t, fun pp hp => q3.newL S3 hp (dpa_cut dd l h)⟩)
/-- the same, to be changed later -/
theorem ev_slLC {ds : List Dt} {lo hi : Option Expr} {l h : Option Int} {p2 : Pos} (ha : Ev X a env μ μ1 x) (hx : Dv μ3 x (.list ds)) (h1 : EvO X lo env μ1 μ2 l) (h2 : EvO X hi env μ2 μ3 h) : Ev X (.Subscript a (.Slice lo hi none p2) pos) env μ (μ3 ++ [some (Cl.lst (cutD ds l h))]) (.c μ3.length) := .mk fun σ G H A E S Q q pins s I =>
  (pe_slice sl_list pu pO pO).run pins s σ H Q I (ha.run σ G H A E S _ fun v G1 H1 A1 e1 p1 S1 r1 => h1.run σ G1 H1 A1 (E.mv e1 p1) S1 _ fun G2 H2 A2 e2 p2 S2 => h2.run σ G2 H2 A2 ((E.mv e1 p1).mv e2 p2) S2 _ fun G3 H3 A3 e3 p3 S3 => by
    have r3 := (r1.mv e2 p2).mv e3 p3
    have q3 := q.mono ((e1.trans e2).trans e3) ((p1.trans p2).trans p3)
    obtain ⟨p, xs, rfl, t, dd⟩ := r3.lst S3 hx
    exact ⟨p, xs, rfl, t, fun pp hp => q3.newC S3 hp (dpa_cut dd l h)⟩)

/-! ### calls of built-ins -/
theorem ev_callB {nm : Str} {id : String} {r : List V → Hp → VK → Prop} {xs : List DE} (hc : CallR X (.builtin id) r) (hg : Gl X nm) (hm : X.mg nm = none) (hv : bootBuiltins nm = some (.builtin id)) (ha : EvA X (e :: es) env μ μ1 xs) (hr : RC X.K r xs μ1 μ2 z)
    (hn : nm ≠ "__name__" := by decide) (hdb : (nm == ("__debug__" : Str)) = false := by decide) (he : starEach (e :: es) X.env = (false, eval e X.env) :: starEach es X.env := by rfl) (hpl : (backTo pos (starEach es X.env)).any (·.1) = false := by rfl) : Ev X (.Call (.Name nm p) (e :: es) [] pos) env μ μ2 z := .mk fun σ G H A E S Q q pins s I =>
  (pe_callB hc hg hm hv pA hn hdb he hpl).run pins s σ H Q I (ha.run σ G H A E S _ fun vs G1 H1 A1 e1 p1 S1 r1 => hr G1 H1 A1 vs S1 r1 Q (q.mono e1 p1))
theorem ev_callT {nm : Str} {id : String} {r : List V → Hp → VK → Prop} {xs : List DE} (hc : CallR X (.type id) r) (hg : Gl X nm) (hm : X.mg nm = none) (hv : bootBuiltins nm = some (.type id)) (ha : EvA X (e :: es) env μ μ1 xs) (hr : RC X.K r xs μ1 μ2 z)
    (hn : nm ≠ "__name__" := by decide) (hdb : (nm == ("__debug__" : Str)) = false := by decide) (he : starEach (e :: es) X.env = (false, eval e X.env) :: starEach es X.env := by rfl) (hpl : (backTo pos (starEach es X.env)).any (·.1) = false := by rfl) : Ev X (.Call (.Name nm p) (e :: es) [] pos) env μ μ2 z := .mk fun σ G H A E S Q q pins s I =>
  (pe_callTy hc hg hm hv pA hn hdb he hpl).run pins s σ H Q I (ha.run σ G H A E S _ fun vs G1 H1 A1 e1 p1 S1 r1 => hr G1 H1 A1 vs S1 r1 Q (q.mono e1 p1))
theorem rc_lenT {ds : List Dt} : RC X.K (fun xs H Q => ∃ p ys, xs = [.ref p] ∧ (SqL X.K H p ys ∨ SqT X.K H p ys) ∧ Q (.int ys.length) H) [.d (.tuple ds)] μ μ (.d (.int ds.length)) := fun G H A vs S r Q q => by
  obtain ⟨v, rfl, r1⟩ := Rp.one r
  obtain ⟨p, xs, rfl, t, dd⟩ := r1.tup S
  exact ⟨p, xs, rfl, .inr t, by rw [dpa_len dd]; exact q.now S (.d (.int _))⟩
theorem rc_lenL {ds : List Dt} (h : Dv μ x (.list ds)) : RC X.K (fun xs H Q => ∃ p ys, xs = [.ref p] ∧ (SqL X.K H p ys ∨ SqT X.K H p ys) ∧ Q (.int ys.length) H) [x] μ μ (.d (.int ds.length)) := fun G H A vs S r Q q => by
  obtain ⟨v, rfl, r1⟩ := Rp.one r
  obtain ⟨p, xs, rfl, t, dd⟩ := r1.lst S h
  exact ⟨p, xs, rfl, .inl t, by rw [dpa_len dd]; exact q.now S (.d (.int _))⟩
theorem rc_tupleL {ds : List Dt} (h : Dv μ x (.list ds)) : RC X.K (fun xs H Q => ∃ p ys, xs = [.ref p] ∧ ((SqL X.K H p ys ∧ ∀ l, H l = none → Q (.ref l) (upd H l (.tup ys))) ∨ (SqT X.K H p ys ∧ Q (.ref p) H))) [x] μ μ (.d (.tuple ds)) := fun G H A vs S r Q q => by
  obtain ⟨v, rfl, r1⟩ := Rp.one r
  obtain ⟨p, xs, rfl, t, dd⟩ := r1.lst S h
  exact ⟨p, xs, rfl, .inl ⟨t, fun l hl => q.newT S hl dd⟩⟩
theorem rc_listT {ds : List Dt} : RC X.K (fun xs H Q => ∃ p ys, xs = [.ref p] ∧ (SqL X.K H p ys ∨ SqT X.K H p ys) ∧ ∀ l, H l = none → Q (.ref l) (upd H l (.lst ys))) [.d (.tuple ds)] μ μ (.d (.list ds)) := fun G H A vs S r Q q => by
  obtain ⟨v, rfl, r1⟩ := Rp.one r
  obtain ⟨p, xs, rfl, t, dd⟩ := r1.tup S
  exact ⟨p, xs, rfl, .inr t, fun l hl => q.newL S hl dd⟩
theorem rc_sum {ns : List Int} (h : Dv μ x (.list (ns.map .int))) : RC X.K (rSum X.K) [x] μ μ (.d (.int ns.sum)) := fun G H A vs S r Q q => by
  obtain ⟨v, rfl, r1⟩ := Rp.one r
  obtain ⟨p, xs, rfl, t, dd⟩ := r1.lst S h
  exact ⟨p, ns, rfl, by rw [← dpa_ints dd]; exact t, q.now S (.d (.int _))⟩
theorem rc_all {ns : List Bool} (h : Dv μ x (.list (ns.map .bool))) : RC X.K (rAll X.K) [x] μ μ (.d (.bool (ns.all id))) := fun G H A vs S r Q q => by
  obtain ⟨v, rfl, r1⟩ := Rp.one r
  obtain ⟨p, xs, rfl, t, dd⟩ := r1.lst S h
  exact ⟨p, ns, rfl, by rw [← dpa_bls dd]; exact t, q.now S (.d (.bl _))⟩
theorem rc_abs : RC X.K (fun xs H Q => ∃ i, xs = [.int i] ∧ Q (.int (if i < 0 then -i else i)) H) [.d (.int i)] μ μ (.d (.int (if i < 0 then -i else i))) := fun G H A vs S r Q q => by
  obtain ⟨v, rfl, r1⟩ := Rp.one r
  exact ⟨i, by rw [r1.int], q.now S (.d (.int _))⟩
theorem rc_min2 : RC X.K (fun xs H Q => ∃ i j, xs = [.int i, .int j] ∧ Q (.int (if j < i then j else i)) H) [.d (.int i), .d (.int j)] μ μ (.d (.int (if j < i then j else i))) := fun G H A vs S r Q q => by
  obtain ⟨v, w, rfl, r1, r2⟩ := Rp.two r
  exact ⟨i, j, by rw [r1.int, r2.int], q.now S (.d (.int _))⟩

/-! ### calls of defs -/
/-- a def's promise by data: f args μ μ' r -/
abbrev Phi := List DE → MU → MU → DE → Prop
def SpD (K : PySem.W.Frag) (f : Phi) : Sp := fun vs H Q _ => ∃ G A xs μ μ' r, f xs μ μ' r ∧ Sit K G H A μ ∧ RpL K G A vs xs ∧ PoE K G H A μ' r Q
/-- a def that stands under its name and keeps its promise -/
structure Df (P : Program) (w : World) (K : PySem.W.Frag) (mg : Str → Option Value) (base : Heap) (k : Nat) (x : Str) (f : Phi) : Prop where
  ex : ∃ (fa : Addr) (fd : FuncData) (ps : List Str), FnOk P w K mg base CX0 k fa fd ps (SpD K f) ∧ mg x = some (.ref fa) ∧ PySem.W.keepIn K (.ref fa) = true ∧ Binds K fd ps []
theorem ev_call {nm : Str} {f : Phi} {k j : Nat} {xs : List DE} (F : Df X.prog X.w X.K X.mg X.base k nm f) (hr : Room j X.A) (hk : k ≤ j) (hg : Gl X nm) (ha : EvA X (e :: es) env μ μ1 xs) (hf : f xs μ1 μ2 z)
    (hdb : (nm == ("__debug__" : Str)) = false := by decide) (he : starEach (e :: es) X.env = (false, eval e X.env) :: starEach es X.env := by rfl) (hpl : (backTo pos (starEach es X.env)).any (·.1) = false := by rfl) : Ev X (.Call (.Name nm p) (e :: es) [] pos) env μ μ2 z := by
  obtain ⟨fa, fd, ps, F, hm, kp, hb⟩ := F.ex
  exact .mk fun σ G H A E S Q q pins s I => (pe_call (E := E0) F (hr.mono hk) hg hm kp hb .nil pass0 pA hdb he hpl).run pins s σ H Q I (ha.run σ G H A E S _ fun vs G1 H1 A1 e1 p1 S1 r1 => ⟨G1, A1, xs, μ1, μ2, z, hf, S1, by rw [List.append_nil]; exact r1, q.mono e1 p1⟩)
end
end Rw
/-! Rw3: statements, targets, loops, comprehensions, defs. -/
namespace Rw
open PySem PySem.Spec PyProof.Rows L2

def uS (X : Cx) (st : Stmt) : TS := fun D σ H => ∀ (pins : List (Addr × Obj)) (s : Shared), Inv X pins σ H s → wpAny (model X.prog X.w) X.A (exec st X.env) (SP X pins D) X.xe s
def uSs (X : Cx) (sts : List Stmt) : TS := fun D σ H => ∀ (pins : List (Addr × Obj)) (s : Shared), Inv X pins σ H s → wpAny (model X.prog X.w) X.A (execs sts X.env) (SP X pins D) X.xe s
def uG (X : Cx) (tg : Expr) : TG := fun v σ H Q => ∀ (pins : List (Addr × Obj)) (s : Shared) (u : Value), Inv X pins σ H s → RelV v u → wpAny (model X.prog X.w) X.A (assign tg X.env u) (fun _ s' => ∃ σ' H', Inv X pins σ' H' s' ∧ Q σ' H') X.xe s
def uI (X : Cx) (tg iter : Expr) : TI := fun σ H R => ∀ (pins : List (Addr × Obj)) (s : Shared), Inv X pins σ H s → wpAny (model X.prog X.w) X.A (eval iter X.env) (fun v s1 => wpAny (model X.prog X.w) X.A (pyIter v) (PIE X pins σ tg R) X.xe s1) X.xe s
theorem pS {X : Cx} {st : Stmt} : PS X st (uS X st) := ⟨fun pins s _ _ _ I h => h pins s I⟩
theorem pSs {X : Cx} {sts : List Stmt} : PSs X sts (uSs X sts) := ⟨fun pins s _ _ _ I h => h pins s I⟩
theorem pG {X : Cx} {tg : Expr} : PG X tg (uG X tg) := ⟨fun pins s _ _ _ u _ I r h => h pins s u I r⟩
theorem pI {X : Cx} {tg iter : Expr} : PI X tg iter (uI X tg iter) := ⟨fun pins s _ _ _ I h => h pins s I⟩

/-- what is wanted behind a statement -/
structure DN where
  nx : LE → MU → Prop
  rt : DE → MU → Prop
  bk : LE → MU → Prop := fun _ _ => False
  ct : LE → MU → Prop := fun _ _ => False
def PoN (K : PySem.W.Frag) (G H : Hp) (A : List Addr) (N : LE → MU → Prop) (M : L2.St → Hp → Prop) : Prop :=
  ∀ env μ σ G' H' A', N env μ → Same G G' → Mv G A H G' A' H' → InE K G' A' σ env → Sit K G' H' A' μ → M σ H'
structure PoS (K : PySem.W.Frag) (G H : Hp) (A : List Addr) (D : DN) (E : Ends) : Prop where
  nx : PoN K G H A D.nx E.nx
  bk : PoN K G H A D.bk E.bk
  ct : PoN K G H A D.ct E.ct
  rt : ∀ r μ, D.rt r μ → PoE K G H A μ r E.rt
theorem PoN.mono {K : PySem.W.Frag} {G G' H H' : Hp} {A A' : List Addr} {N : LE → MU → Prop} {M : L2.St → Hp → Prop} (h : PoN K G H A N M) (e : Same G G') (m : Mv G A H G' A' H') : PoN K G' H' A' N M := fun env μ σ G2 H2 A2 n e2 m2 => h env μ σ G2 H2 A2 n (e.trans e2) (m.trans m2)
theorem PoS.mono {K : PySem.W.Frag} {G G' H H' : Hp} {A A' : List Addr} {D : DN} {E : Ends} (h : PoS K G H A D E) (e : Same G G') (m : Mv G A H G' A' H') : PoS K G' H' A' D E := ⟨h.nx.mono e m, h.bk.mono e m, h.ct.mono e m, fun r μ q => (h.rt r μ q).mono e m⟩
structure Bs (X : Cx) (sts : List Stmt) (env : LE) (μ : MU) (D : DN) : Prop where
  run : ∀ σ G H A, InE X.K G A σ env → Sit X.K G H A μ → ∀ E : Ends, PoS X.K G H A D E → uSs X sts E σ H
structure B1 (X : Cx) (st : Stmt) (env : LE) (μ : MU) (D : DN) : Prop where
  run : ∀ σ G H A, InE X.K G A σ env → Sit X.K G H A μ → ∀ E : Ends, PoS X.K G H A D E → uS X st E σ H

section
variable {X : Cx} {env env1 : LE} {μ μ1 μ2 μ3 : MU} {x y z : DE} {a b c e o tg iter : Expr} {es : List Expr} {pos p pos' : Pos} {D : DN} {rest body sa sb : List Stmt} {st : Stmt}

theorem bs_nil (h : D.nx env μ) : Bs X [] env μ D := .mk fun σ G H A E S N q pins s I => pss_nil.run pins s σ H N I (q.nx env μ σ G H A h (Same.refl G) (Mv.refl G A H) E S)
theorem bs_cons {M : LE → MU → Prop} (h : B1 X st env μ { D with nx := M }) (h' : ∀ env1 μ1, M env1 μ1 → Bs X rest env1 μ1 D) : Bs X (st :: rest) env μ D := .mk fun σ G H A E S N q pins s I =>
  (pss_cons pS pSs).run pins s σ H N I (h.run σ G H A E S _ ⟨fun env1 μ1 σ1 G1 H1 A1 m e1 p1 E1 S1 => (h' env1 μ1 m).run σ1 G1 H1 A1 E1 S1 N (q.mono e1 p1), q.bk, q.ct, q.rt⟩)
theorem bs_one (h : B1 X st env μ D) : Bs X [st] env μ D := .mk fun σ G H A E S N q pins s I => (pss_one pS).run pins s σ H N I (h.run σ G H A E S N q)
/-- one after another, the state behind the first as it is -/
theorem bs_then (h : B1 X st env μ { D with nx := fun env1 μ1 => Bs X rest env1 μ1 D }) : Bs X (st :: rest) env μ D := bs_cons h fun _ _ q => q
theorem Bs.imp {D' : DN} (h : Bs X rest env μ D) (h1 : ∀ e m, D.nx e m → D'.nx e m) (h2 : ∀ r m, D.rt r m → D'.rt r m) (h3 : ∀ e m, D.bk e m → D'.bk e m) (h4 : ∀ e m, D.ct e m → D'.ct e m) : Bs X rest env μ D' := .mk fun σ G H A E S N q =>
  h.run σ G H A E S N ⟨fun env1 μ1 σ1 G1 H1 A1 m => q.nx env1 μ1 σ1 G1 H1 A1 (h1 _ _ m), fun env1 μ1 σ1 G1 H1 A1 m => q.bk env1 μ1 σ1 G1 H1 A1 (h3 _ _ m), fun env1 μ1 σ1 G1 H1 A1 m => q.ct env1 μ1 σ1 G1 H1 A1 (h4 _ _ m), fun r m z => q.rt r m (h2 r m z)⟩
theorem b1_pass (h : D.nx env μ) : B1 X (.Pass pos) env μ D := .mk fun σ G H A E S N q pins s I => ps_pass.run pins s σ H N I (q.nx env μ σ G H A h (Same.refl G) (Mv.refl G A H) E S)
theorem b1_cont (h : D.ct env μ) : B1 X (.Continue pos) env μ D := .mk fun σ G H A E S N q pins s I => ps_continue.run pins s σ H N I (q.ct env μ σ G H A h (Same.refl G) (Mv.refl G A H) E S)
theorem b1_break (h : D.bk env μ) : B1 X (.Break pos) env μ D := .mk fun σ G H A E S N q pins s I => ps_break.run pins s σ H N I (q.bk env μ σ G H A h (Same.refl G) (Mv.refl G A H) E S)
theorem b1_ret (h : Ev X e env μ μ1 x) (hr : D.rt x μ1) : B1 X (.Return (some e) pos) env μ D := .mk fun σ G H A E S N q pins s I => (ps_ret pu).run pins s σ H N I (h.run σ G H A E S _ (q.rt x μ1 hr))
theorem b1_retN (hr : D.rt (.d .none) μ) : B1 X (.Return none pos) env μ D := .mk fun σ G H A E S N q pins s I => ps_retN.run pins s σ H N I ((q.rt _ μ hr).now S (.d .non))
theorem bs_ret (h : Ev X e env μ μ1 x) (hr : D.rt x μ1) : Bs X (.Return (some e) pos :: rest) env μ D := bs_then (b1_ret h hr)
theorem b1_expr (h : Ev X e env μ μ1 x) (hn : D.nx env μ1) (hs : swapsWith e none pos.line X.env = pure false := by rfl) : B1 X (.Expr e pos) env μ D := .mk fun σ G H A E S N q pins s I =>
  (ps_expr pu hs).run pins s σ H N I (h.run σ G H A E S _ fun v G1 H1 A1 e1 p1 S1 r1 => q.nx env μ1 σ G1 H1 A1 hn e1 p1 (E.mv e1 p1) S1)
theorem b1_if {k : Bool} (h : EvT X c env μ μ1 k) (h1 : k = true → Bs X sa env μ1 D) (h2 : k = false → Bs X sb env μ1 D) : B1 X (.If c sa sb pos) env μ D := .mk fun σ G H A E S N q pins s I =>
  (ps_if pT pSs pSs).run pins s σ H N I (h.run σ G H A E S _ fun G1 H1 A1 e1 p1 S1 => by
    cases k with
    | true => exact (h1 rfl).run σ G1 H1 A1 (E.mv e1 p1) S1 N (q.mono e1 p1)
    | false => exact (h2 rfl).run σ G1 H1 A1 (E.mv e1 p1) S1 N (q.mono e1 p1))
/-- x = e -/
theorem b1_set (k : Nat) {nm : Str} (h : Ev X e env μ μ1 x) (hn : D.nx (env.set k (some x)) μ1) (hN : X.N.Nodup) (hi : X.N[k]? = some nm) (hx : Loc X.env.scope nm) (hs : swapsWith e (some (.Name nm pos')) pos.line X.env = pure false := by rfl)
    (hf : X.fn nm = true ∨ X.env.scope.names.lookup nm = some .local := by first | exact .inl rfl | exact .inr rfl | assumption) : B1 X (.Assign [.Name nm pos'] e pos) env μ D := .mk fun σ G H A E S N q pins s I =>
  (ps_set hN hi hx pu hs hf).run pins s σ H N I (h.run σ G H A E S _ fun v G1 H1 A1 e1 p1 S1 r1 => q.nx _ μ1 _ G1 H1 A1 hn e1 p1 ((E.mv e1 p1).set r1 k) S1)
theorem bs_set (k : Nat) {nm : Str} (h : Ev X e env μ μ1 x) (hn : Bs X rest (env.set k (some x)) μ1 D) (hN : X.N.Nodup) (hi : X.N[k]? = some nm) (hx : Loc X.env.scope nm) (hs : swapsWith e (some (.Name nm pos')) pos.line X.env = pure false := by rfl)
    (hf : X.fn nm = true ∨ X.env.scope.names.lookup nm = some .local := by first | exact .inl rfl | exact .inr rfl | assumption) : Bs X (.Assign [.Name nm pos'] e pos :: rest) env μ D := bs_then (b1_set k h hn hN hi hx hs hf)
/-- x += e (ints) -/
theorem b1_aug (k : Nat) {nm : Str} {op : Operator} {ti : TIp} (h0 : env[k]? = some (some x)) (h : Ev X e env μ μ1 y) (ho : PIp X op ti) (hr : RV X.K ti x y μ1 μ2 z) (hn : D.nx (env.set k (some z)) μ2) (hN : X.N.Nodup) (hi : X.N[k]? = some nm) (hx : Loc X.env.scope nm)
    (hf : X.fn nm = true ∨ X.env.scope.names.lookup nm = some .local := by first | exact .inl rfl | exact .inr rfl | assumption) : B1 X (.AugAssign (.Name nm pos') op e pos) env μ D := .mk fun σ G H A E S N q pins s I => by
  obtain ⟨v, hv, rv⟩ := E.2 k x h0
  exact (ps_aug hN hi hx pu ho hf).run pins s σ H N I ⟨v, hv, h.run σ G H A E S _ fun w G1 H1 A1 e1 p1 S1 r1 => hr G1 H1 A1 v w S1 (rv.mv e1 p1) r1 _ fun w2 G2 H2 A2 e2 p2 S2 r2 =>
    q.nx _ μ2 _ G2 H2 A2 hn (e1.trans e2) (p1.trans p2) (((E.mv e1 p1).mv e2 p2).set r2 k) S2⟩
/-- a, b = x, y (local names) -/
theorem b1_par (k l : Nat) {nx ny : Str} {px py pt pt2 : Pos} {kt k2 : Nat} (ha : EvA X [a, b] env μ μ1 [x, y]) (hn : D.nx ((env.set k (some x)).set l (some y)) μ1) (hc : X.calm = true) (hN : X.N.Nodup) (hi : X.N[k]? = some nx) (hj : X.N[l]? = some ny) (hij : k ≠ l)
    (hx : X.env.scope.names.lookup nx = some .local) (hy : X.env.scope.names.lookup ny = some .local)
    (hw : swappedStores [.Tuple [.Name nx px, .Name ny py] kt pt] (.Tuple [a, b] k2 pt2) X.env = pure (some [nx, ny]) := by rfl) (hs : swapsWithSole [.Tuple [.Name nx px, .Name ny py] kt pt] (.Tuple [a, b] k2 pt2) pos.line X.env = pure false := by rfl) :
    B1 X (.Assign [.Tuple [.Name nx px, .Name ny py] kt pt] (.Tuple [a, b] k2 pt2) pos) env μ D := .mk fun σ G H A E S N q pins s I =>
  (ps_par hc hN hi hj hij hx hy pA hw hs).run pins s σ H N I (ha.run σ G H A E S _ fun vs G1 H1 A1 e1 p1 S1 r1 => by
    obtain ⟨v, w, rfl, h1, h2⟩ := Rp.two r1
    exact ⟨v, w, rfl, q.nx _ μ1 _ G1 H1 A1 hn e1 p1 (((E.mv e1 p1).set h1 k).set h2 l) S1⟩)

/-! ### targets -/
/-- only the slots ks change -/
def But (ks : List Nat) (σ σ' : L2.St) : Prop := σ'.length = σ.length ∧ ∀ i, i ∉ ks → σ'[i]? = σ[i]?
structure Tg (X : Cx) (tg : Expr) (x : DE) (env : LE) (μ : MU) (env' : LE) (ks : List Nat) : Prop where
  run : ∀ σ G H A v, InE X.K G A σ env → Sit X.K G H A μ → Rp X.K G A v x → ∀ Q : L2.St → Hp → Prop, (∀ σ', But ks σ σ' → InE X.K G A σ' env' → Q σ' H) → uG X tg v σ H Q
def TgL (X : Cx) (ts : List Expr) (ds : List Dt) (env : LE) (μ : MU) (env' : LE) (ks : List Nat) : Prop := ∃ g : TGs, PGs X ts g ∧ ∀ σ G H A vs, InE X.K G A σ env → Sit X.K G H A μ → DpAll X.K G vs ds → ∀ Q : L2.St → Hp → Prop, (∀ σ', But ks σ σ' → InE X.K G A σ' env' → Q σ' H) → g vs σ H Q
theorem tg_name (k : Nat) {nm : Str} (hN : X.N.Nodup) (hi : X.N[k]? = some nm) (hx : Loc X.env.scope nm) (hf : X.fn nm = true ∨ X.env.scope.names.lookup nm = some .local := by first | exact .inl rfl | exact .inr rfl | assumption) : Tg X (.Name nm pos) x env μ (env.set k (some x)) [k] :=
  .mk fun σ G H A v E S r Q q pins s u I ru => (pg_name hN hi hx hf).run pins s σ H v u Q I ru (q _ ⟨List.length_set, fun i hi => by rw [List.getElem?_set_ne (fun e => hi (by rw [e]; simp))]⟩ (E.set r k))
theorem tgl_nil : TgL X [] [] env μ env [] := ⟨_, pgs_nil, fun σ G H A vs E S r Q q => by cases r; exact ⟨rfl, q σ ⟨rfl, fun _ _ => rfl⟩ E⟩⟩
theorem tgl_cons {d : Dt} {ds : List Dt} {env2 : LE} {ks ks' : List Nat} (h : Tg X tg (.d d) env μ env1 ks) (h' : TgL X es ds env1 μ env2 ks') (hs : (assignEach (tg :: es) X.env).map (·.2) = assign tg X.env :: (assignEach es X.env).map (·.2) := by rfl) : TgL X (tg :: es) (d :: ds) env μ env2 (ks ++ ks') := by
  obtain ⟨g, hg, h'⟩ := h'
  refine ⟨_, pgs_cons pG hg hs, fun σ G H A vs E S r Q q => ?_⟩
  cases r with
  | cons r rr => exact ⟨_, _, rfl, h.run σ G H A _ E S (.d r) _ fun σ1 b1 E1 => h' σ1 G H A _ E1 S rr Q fun σ2 b2 E2 => q σ2 ⟨b2.1.trans b1.1, fun i hi => (b2.2 i fun z => hi (List.mem_append_right _ z)).trans (b1.2 i fun z => hi (List.mem_append_left _ z))⟩ E2⟩
theorem tg_tup {ds : List Dt} {j : Nat} {ks : List Nat} (hc : X.calm = true) (h : TgL X es ds env μ env1 ks) (hn : (assignEach es X.env).length = ds.length := by rfl) (hst : (assignEach es X.env).findIdx? (·.1) = none := by rfl) : Tg X (.Tuple es j pos) (.d (.tuple ds)) env μ env1 ks := by
  obtain ⟨g, hg, h⟩ := h
  refine .mk fun σ G H A v E S r Q q pins s u I ru => ?_
  obtain ⟨p, xs, rfl, t, dd⟩ := r.tup S
  exact (pg_tup (n := ds.length) hc hg hn hst).run pins s σ H _ u Q I ru ⟨p, xs, rfl, t, dpa_len dd, h σ G H A xs E S dd Q q⟩
/-- a target of any form = e -/
theorem b1_asg {ks : List Nat} (h : Ev X e env μ μ1 x) (hg : Tg X tg x env μ1 env1 ks) (hn : D.nx env1 μ1) (hs : swapsWithSole [tg] e pos.line X.env = pure false := by rfl) (hw : swappedStores [tg] e X.env = pure none := by rfl) (h1 : (assignEach [tg] X.env).map (·.2) = [assign tg X.env] := by rfl) : B1 X (.Assign [tg] e pos) env μ D := .mk fun σ G H A E S N q pins s I =>
  (ps_asg pu pG hs hw h1).run pins s σ H N I (h.run σ G H A E S _ fun v G1 H1 A1 e1 p1 S1 r1 => hg.run σ G1 H1 A1 v (E.mv e1 p1) S1 r1 _ fun σ1 _ E1 => q.nx _ μ1 _ G1 H1 A1 hn e1 p1 E1 S1)
/-- o[i] = e, of a list of ours -/
theorem b1_put {k j : Nat} {n : Int} {d : Dt} {ds : List Dt} {ti : Expr} {tp : Pos} (h : Ev X e env μ μ1 (.d d)) (ho : Ev X o env μ1 μ2 (.c k)) (hi : Ev X ti env μ2 μ3 (.d (.int n))) (hk : μ3[k]? = some (some (Cl.lst ds))) (hj : ixN ds.length n = some j) (hn : D.nx env (μ3.set k (some (Cl.lst (ds.set j d)))))
    (hs : swapsWithSole [.Subscript o ti tp] e pos.line X.env = pure false := by rfl) (hw : swappedStores [.Subscript o ti tp] e X.env = pure none := by rfl) (h1 : (assignEach [.Subscript o ti tp] X.env).map (·.2) = [assign (.Subscript o ti tp) X.env] := by rfl)
    (ha : ∀ v, assign (.Subscript o ti tp) X.env v = (do let ov ← holding [v] (eval o X.env); let iv ← holding [v, ov] (eval ti X.env); standAt tp; holding [v, ov, iv] (setItem ov iv v); release [v, ov, iv] []) := by intro _; rfl) : B1 X (.Assign [.Subscript o ti tp] e pos) env μ D := .mk fun σ G H A E S N q pins s I =>
  (ps_asg pu (pg_sub pu pu set_list ha) hs hw h1).run pins s σ H N I (h.run σ G H A E S _ fun v G1 H1 A1 e1 p1 S1 r1 => ho.run σ G1 H1 A1 (E.mv e1 p1) S1 _ fun ov G2 H2 A2 e2 p2 S2 r2 => hi.run σ G2 H2 A2 ((E.mv e1 p1).mv e2 p2) S2 _ fun iv G3 H3 A3 e3 p3 S3 r3 => by
    cases r2.mv e3 p3 with
    | @c _ a hA =>
      obtain ⟨g0, xs, hx, hd⟩ := S3.cell k a ds hA hk
      have rd : Dp X.K G3 v d := by
        cases (r1.mv e2 p2).mv e3 p3 with
        | d r => exact r
      refine ⟨a, xs, n, j, rfl, r3.int, hx, by rw [dpa_len hd]; exact hj, ?_⟩
      have S4 := S3.put hA hk (dpa_set j hd rd)
      have m4 : Mv G3 A3 H3 G3 A3 (upd H3 a (.lst (xs.set j v))) := Mv.put (List.mem_of_getElem? hA)
      exact q.nx env _ σ G3 _ A3 hn ((e1.trans e2).trans e3) (((p1.trans p2).trans p3).trans m4) (((E.mv e1 p1).mv e2 p2).mv e3 p3) S4)
/-- xs.append(e), of a list of ours -/
theorem ev_append {k : Nat} {d : Dt} {ds : List Dt} {ap : Pos} (ho : Ev X o env μ μ1 (.c k)) (h : Ev X e env μ1 μ2 (.d d)) (hk1 : ∃ ds', μ1[k]? = some (some (Cl.lst ds'))) (hk : μ2[k]? = some (some (Cl.lst ds))) (hl : ds.length < sizeLine)
    (hbase : attributeBase o "append" X.env (eval o X.env) = eval o X.env := by rfl)
    (hfew : ((backTo pos (starEach [e] X.env)).all (fun x => !x.1) && (backToKw pos (keywordEach [] X.env)).all (fun x => x.1.isSome)
      && decide ([e].length + ([] : List Keyword).length + (if ([] : List Keyword).isEmpty then 0 else 1) < 30)) = true := by rfl)
    (hline : (ap.endLine == pos.line) = true := by rfl) (hs : starEach [e] X.env = (false, eval e X.env) :: starEach [] X.env := by rfl) (hplain : (backTo pos (starEach [] X.env)).any (·.1) = false := by rfl) :
    Ev X (.Call (.Attribute o "append" ap) [e] [] pos) env μ (μ2.set k (some (Cl.lst (ds ++ [d])))) (.d .none) := .mk fun σ G H A E S Q q pins s I =>
  (pe_bm PySem.F.plainAttrs_list PySem.F.slot_list_append PySem.F.type_list_append mt_append pu (pa_cons pu pa_nil hs) hbase hfew hline hs hplain).run pins s σ H Q I (ho.run σ G H A E S _ fun v G1 H1 A1 e1 p1 S1 r1 => by
    cases r1 with
    | @c _ a hA =>
      obtain ⟨ds', hk1⟩ := hk1
      obtain ⟨_, xs0, hx0, _⟩ := S1.cell k a ds' hA hk1
      refine ⟨.inl ⟨rfl, _, SqL.of hx0⟩, h.run σ G1 H1 A1 (E.mv e1 p1) S1 _ fun w G2 H2 A2 e2 p2 S2 r2 => ?_⟩
      have hA2 := p2.Pre.get hA
      obtain ⟨g0, xs, hx, hd⟩ := S2.cell k a ds hA2 hk
      have rd : Dp X.K G2 w d := by
        cases r2 with
        | d r => exact r
      exact ⟨a, xs, w, rfl, rfl, hx, by rw [dpa_len hd]; exact hl, q _ G2 _ A2 (e1.trans e2) ((p1.trans p2).trans (Mv.put (List.mem_of_getElem? hA2))) (S2.put hA2 hk (dpa_app hd (.cons rd .nil))) (.d .non)⟩)

/-! ### while -/
theorem b1_while (I : LE → MU → Prop) (m : LE → MU → Nat) (h0 : I env μ) (hp : PassesOwn (model X.prog X.w) X.A X.env X.xe)
    (hs : ∀ env μ, I env μ → ∃ k, EvT X c env μ μ k ∧ (k = true → Bs X body env μ { nx := fun e' m' => I e' m' ∧ m e' m' < m env μ, ct := fun e' m' => I e' m' ∧ m e' m' < m env μ, bk := D.nx, rt := D.rt }) ∧ (k = false → D.nx env μ)) : B1 X (.While c body [] pos) env μ D := .mk fun σ G H A E S N q pins s J => by
  refine (ps_while hp pT pSs).run pins s σ H N J ?_
  refine ⟨fun n σ1 H1 => ∃ env1 μ1 G1 A1, n = m env1 μ1 ∧ I env1 μ1 ∧ Same G G1 ∧ Mv G A H G1 A1 H1 ∧ InE X.K G1 A1 σ1 env1 ∧ Sit X.K G1 H1 A1 μ1, ⟨_, env, μ, G, A, rfl, h0, Same.refl G, Mv.refl G A H, E, S⟩, ?_⟩
  rintro n σ1 H1 ⟨env1, μ1, G1, A1, rfl, i1, e1, m1, E1, S1⟩
  obtain ⟨k, hc, ht, hf⟩ := hs env1 μ1 i1
  refine hc.run σ1 G1 H1 A1 E1 S1 _ fun G2 H2 A2 e2 m2 S2 => ?_
  have q2 := (q.mono e1 m1).mono e2 m2
  cases k with
  | false => exact q2.nx env1 μ1 σ1 G2 H2 A2 (hf rfl) (Same.refl _) (Mv.refl _ _ _) (E1.mv e2 m2) S2
  | true =>
    refine ⟨fun σ3 H3 => ∃ env3 μ3 G3 A3, (I env3 μ3 ∧ m env3 μ3 < m env1 μ1) ∧ Same G G3 ∧ Mv G A H G3 A3 H3 ∧ InE X.K G3 A3 σ3 env3 ∧ Sit X.K G3 H3 A3 μ3, fun σ3 H3 ⟨env3, μ3, G3, A3, ⟨i3, l3⟩, e3, m3, E3, S3⟩ => ⟨_, l3, env3, μ3, G3, A3, rfl, i3, e3, m3, E3, S3⟩, ?_⟩
    refine (ht rfl).run σ1 G2 H2 A2 (E1.mv e2 m2) S2 _ ⟨?_, q2.nx, ?_, q2.rt⟩
    · exact fun env3 μ3 σ3 G3 H3 A3 i3 e3 m3 E3 S3 => ⟨env3, μ3, G3, A3, i3, (e1.trans e2).trans e3, (m1.trans m2).trans m3, E3, S3⟩
    · exact fun env3 μ3 σ3 G3 H3 A3 i3 e3 m3 E3 S3 => ⟨env3, μ3, G3, A3, i3, (e1.trans e2).trans e3, (m1.trans m2).trans m3, E3, S3⟩

/-! ### what is walked -/
/-- J gives the data ds one after another, while what is known to stay stays -/
structure Wk (K : PySem.W.Frag) (G : Hp) (J : L2.It) (ds : List Dt) : Prop where
  ex : ∃ (Gd : Hp → Prop) (Y : Nat → Hp → V → Hp → Prop), L2.Walk J ds.length Gd Y ∧ (∀ H, Same G H → Gd H) ∧ ∀ i H v H' d, Y i H v H' → ds[i]? = some d →
    (H' = H ∧ Dp K G v d) ∨ ∃ T xs es, v = .ref T ∧ H T = none ∧ H' = upd H T (.tup xs) ∧ DpAll K G xs es ∧ d = .tuple es
structure Itb (X : Cx) (tg iter : Expr) (env : LE) (μ μ' : MU) (ds : List Dt) : Prop where
  run : ∀ σ G H A, InE X.K G A σ env → Sit X.K G H A μ → ∀ R : L2.It → Hp → Prop, (∀ J G' H' A', Same G G' → Mv G A H G' A' H' → Sit X.K G' H' A' μ' → Wk X.K G' J ds → R J H') → uI X tg iter σ H R
theorem it_list {ds : List Dt} (h : Ev X iter env μ μ1 (.d (.list ds))) : Itb X tg iter env μ μ1 ds := .mk fun σ G H A E S R q pins s I =>
  (pi_list pu).run pins s σ H R I (h.run σ G H A E S _ fun v G1 H1 A1 e1 p1 S1 r1 => by
    cases r1 with
    | d r =>
      cases r with
      | @lst a xs _ hL hd =>
        refine ⟨a, rfl, ⟨xs, S1.ex.seq hL⟩, q _ G1 H1 A1 e1 p1 S1 ⟨_, _, by rw [← dpa_len hd]; exact walk_list, fun H2 s2 => s2.seq hL, fun i H2 v H3 d y e => ?_⟩⟩
        obtain ⟨v', h1, h2⟩ := dpa_get hd e
        exact .inl ⟨y.1, by rw [Option.some.inj (y.2.symm.trans h1)]; exact h2⟩)
theorem it_tup {ds : List Dt} (h : Ev X iter env μ μ1 (.d (.tuple ds))) : Itb X tg iter env μ μ1 ds := .mk fun σ G H A E S R q pins s I =>
  (pi_tup pu).run pins s σ H R I (h.run σ G H A E S _ fun v G1 H1 A1 e1 p1 S1 r1 => by
    cases r1 with
    | d r =>
      cases r with
      | @tup a xs _ hL hd =>
        refine ⟨a, rfl, ⟨xs, sqt_mono S1.ex hL⟩, q _ G1 H1 A1 e1 p1 S1 ⟨_, _, by rw [← dpa_len hd]; exact walk_tup, fun H2 s2 => sqt_mono s2 hL, fun i H2 v H3 d y e => ?_⟩⟩
        obtain ⟨v', h1, h2⟩ := dpa_get hd e
        exact .inl ⟨y.1, by rw [Option.some.inj (y.2.symm.trans h1)]; exact h2⟩)
/-- range(n) -/
def upto (n : Nat) : List Dt := (List.range n).map fun (i : Nat) => .int (i : Int)
theorem upto_get {n i : Nat} {d : Dt} (h : (upto n)[i]? = some d) : d = .int (i : Int) ∧ i < n := by
  have hl := lt_get h
  unfold upto at h hl
  rw [List.length_map, List.length_range] at hl
  rw [List.getElem?_map, List.getElem?_range hl] at h
  exact ⟨(Option.some.inj h).symm, hl⟩
theorem upto_len (n : Nat) : (upto n).length = n := by unfold upto; rw [List.length_map, List.length_range]
theorem it_range {n : Int} (h : EvA X [a] env μ μ1 [.d (.int n)]) (hg : Gl X "range") (hm : X.mg "range" = none) (h1 : -(2 ^ 62) ≤ n) (h2 : n < 2 ^ 62) (hs : starEach [a] X.env = [(false, eval a X.env)] := by rfl) : Itb X tg (.Call (.Name "range" p) [a] [] pos) env μ μ1 (upto n.toNat) := .mk fun σ G H A E S R q pins s I =>
  (pi_range1 hg hm pA hs).run pins s σ H R I (h.run σ G H A E S _ fun vs G1 H1 A1 e1 p1 S1 r1 => by
    obtain ⟨v, rfl, r2⟩ := Rp.one r1
    refine ⟨n, by rw [r2.int], h1, h2, q _ G1 H1 A1 e1 p1 S1 ⟨_, _, by rw [upto_len]; exact walk_range, fun _ _ => True.intro, fun i H2 v H3 d y e => ?_⟩⟩
    obtain ⟨rfl, _⟩ := upto_get e
    obtain ⟨y1, y2⟩ := y
    refine .inl ⟨y1, ?_⟩
    rw [y2]
    show Dp _ _ (V.int (0 + (i : Int))) _
    rw [Int.zero_add]
    exact .int _)
/-- for tg in iter: body -/
theorem b1_for {ds : List Dt} (I : Nat → LE → MU → Prop) (hi : Itb X tg iter env μ μ1 ds) (h0 : I 0 env μ1) (hp : PassesOwn (model X.prog X.w) X.A X.env X.xe) (hc : X.calm = true)
    (hs : ∀ i d env μ, ds[i]? = some d → I i env μ → ∃ env' ks, Tg X tg (.d d) env μ env' ks ∧ Bs X body env' μ { nx := I (i + 1), ct := I (i + 1), bk := D.nx, rt := D.rt }) (hd : ∀ env μ, I ds.length env μ → D.nx env μ)
    (hf : ∀ x, foldedSetIterable iter X.env x = pure x := by intro _; rfl) : B1 X (.For tg iter body [] pos) env μ D := .mk fun σ G H A E S N q pins s J => by
  refine (ps_for hp hc pI pG pSs hf).run pins s σ H N J (hi.run σ G H A E S _ fun It G1 H1 A1 e1 m1 S1 w1 => ?_)
  obtain ⟨Gd, Y, wk, hG, hY⟩ := w1.ex
  have q1 := q.mono e1 m1
  let Pv : Nat → L2.St → Hp → Prop := fun i σ2 H2 => ∃ env2 μ2 G2 A2, I i env2 μ2 ∧ Same G1 G2 ∧ Mv G1 A1 H1 G2 A2 H2 ∧ InE X.K G2 A2 σ2 env2 ∧ Sit X.K G2 H2 A2 μ2
  refine for_it wk Pv ⟨env, μ1, G1, A1, h0, Same.refl _, Mv.refl _ _ _, E.mv e1 m1, S1⟩ ?_ ?_ ?_
  · rintro i σ2 H2 _ ⟨env2, μ2, G2, A2, _, e2, _, _, S2⟩
    exact hG H2 (e2.trans S2.ex)
  · rintro i v σ2 H2 H3 hi2 ⟨env2, μ2, G2, A2, i2, e2, m2, E2, S2⟩ y
    have hdi : ds[i]? = some ds[i] := List.getElem?_eq_getElem hi2
    obtain ⟨env', ks, ht, hb⟩ := hs i _ env2 μ2 hdi i2
    have go : ∀ G3 H3, Same G2 G3 → Mv G2 A2 H2 G3 A2 H3 → Sit X.K G3 H3 A2 μ2 → Dp X.K G3 v ds[i] → uG X tg v σ2 H3 fun σ4 H4 => uSs X body { N with nx := Pv (i + 1), ct := Pv (i + 1), bk := N.nx } σ4 H4 := fun G3 H3 e3 m3 S3 d3 =>
      ht.run σ2 G3 H3 A2 v (E2.mv e3 m3) S3 (.d d3) _ fun σ4 _ E4 => hb.run σ4 G3 H3 A2 E4 S3 _ ⟨fun env5 μ5 σ5 G5 H5 A5 i5 e5 m5 E5 S5 => ⟨env5, μ5, G5, A5, i5, (e2.trans e3).trans e5, (m2.trans m3).trans m5, E5, S5⟩,
        (((q1.mono e2 m2).mono e3 m3)).nx, fun env5 μ5 σ5 G5 H5 A5 i5 e5 m5 E5 S5 => ⟨env5, μ5, G5, A5, i5, (e2.trans e3).trans e5, (m2.trans m3).trans m5, E5, S5⟩, ((q1.mono e2 m2).mono e3 m3).rt⟩
    rcases hY i H2 v H3 _ y hdi with ⟨rfl, d⟩ | ⟨T, xs, es', rfl, hT, rfl, dd, hde⟩
    · exact go G2 _ (Same.refl _) (Mv.refl _ _ _) S2 (dp_mono e2 d)
    · refine go (upd G2 T (.tup xs)) _ (same_new (S2.ex.free hT)) (Mv.new hT) (S2.new hT) ?_
      rw [hde]
      exact .tup (.inl (.inl upd_same)) (dpa_mono (same_new (S2.ex.free hT)) (dpa_mono e2 dd))
  · rintro σ2 H2 ⟨env2, μ2, G2, A2, i2, e2, m2, E2, S2⟩
    exact q1.nx env2 μ2 σ2 G2 H2 A2 (hd env2 μ2 i2) e2 m2 E2 S2

/-! ### comprehensions -/
def wipeE (env : LE) : List Nat → LE
  | [] => env
  | v :: vs => (wipeE env vs).set v none
theorem InE.wipe {K : PySem.W.Frag} {G : Hp} {A : List Addr} {σ : L2.St} {env : LE} (h : InE K G A σ env) : ∀ vs : List Nat, InE K G A (L2.wipe σ vs) (wipeE env vs)
  | [] => h
  | v :: vs => (InE.wipe h vs).wipe1 v
theorem wipe_get (σ : L2.St) (i : Nat) : ∀ vs : List Nat, (L2.wipe σ vs)[i]? = if i ∈ vs ∧ i < σ.length then some none else σ[i]?
  | [] => by simp [L2.wipe]
  | v :: vs => by
    show ((L2.wipe σ vs).set v none)[i]? = _
    by_cases e : v = i
    · subst e
      by_cases hl : v < σ.length
      · rw [List.getElem?_set_self (by rw [L2.wipe_length]; exact hl), if_pos ⟨by simp, hl⟩]
      · rw [if_neg (fun z => hl z.2), List.getElem?_eq_none_iff.mpr (by rw [List.length_set, L2.wipe_length]; omega), List.getElem?_eq_none_iff.mpr (by omega)]
    · rw [List.getElem?_set_ne e, wipe_get σ i vs]
      have : i ∈ v :: vs ↔ i ∈ vs := by
        rw [List.mem_cons]
        exact ⟨fun z => z.elim (fun q => absurd q.symm e) id, .inr⟩
      by_cases hz : i ∈ vs ∧ i < σ.length
      · rw [if_pos hz, if_pos ⟨this.mpr hz.1, hz.2⟩]
      · rw [if_neg hz, if_neg fun z => hz ⟨this.mp z.1, z.2⟩]
theorem wipe_but {σ σ' : L2.St} {ks vs : List Nat} (h : But ks (L2.wipe σ vs) σ') (hk : ∀ k ∈ ks, k ∈ vs) : L2.wipe σ' vs = L2.wipe σ vs := by
  have hl : σ'.length = σ.length := h.1.trans (L2.wipe_length σ vs)
  refine List.ext_getElem? fun i => ?_
  rw [wipe_get, wipe_get, hl]
  by_cases hi : i ∈ vs ∧ i < σ.length
  · rw [if_pos hi, if_pos hi]
  · rw [if_neg hi, if_neg hi]
    by_cases hv : i ∈ vs
    · have hn : ¬ i < σ.length := fun z => hi ⟨hv, z⟩
      rw [List.getElem?_eq_none_iff.mpr (by omega), List.getElem?_eq_none_iff.mpr (by omega)]
    · rw [h.2 i (fun z => hv (hk i z)), wipe_get, if_neg hi]
/-- a clause's tests -/
def uTs (X : Cx) (ifs : List Expr) : TT := fun σ H Q => ∀ (pins : List (Addr × Obj)) (s : Shared), Inv X pins σ H s →
  wpAny (model X.prog X.w) X.A (forIn ifs true fun c r => if r = true then do let ok ← isTrue c X.env (eval c X.env); pure (ForInStep.yield ok) else pure (ForInStep.yield r)) (TP X pins σ Q) X.xe s
theorem pTs {X : Cx} {ifs : List Expr} : PTs X ifs (uTs X ifs) := ⟨fun pins s _ _ _ I h => h pins s I⟩
structure EvTs (X : Cx) (ifs : List Expr) (env : LE) (μ μ' : MU) (b : Bool) : Prop where
  run : ∀ σ G H A, InE X.K G A σ env → Sit X.K G H A μ → ∀ Q, PoT X.K G H A μ' b Q → uTs X ifs σ H Q
theorem ets_nil : EvTs X [] env μ μ true := .mk fun σ G H A E S Q q pins s I => pts_nil.run pins s σ H Q I (q G H A (Same.refl G) (Mv.refl G A H) S)
theorem ets_one {k : Bool} (h : EvT X c env μ μ1 k) : EvTs X [c] env μ μ1 k := .mk fun σ G H A E S Q q pins s I => (pts_one pT).run pins s σ H Q I (h.run σ G H A E S Q q)
abbrev Blk (X : Cx) (sc : Scope) (s : Shared) (H : Hp) (C : Addr) (cl : List (Str × Addr)) (fp : List Addr) : Cx := X.blk s H sc (compEnvC sc cl C X.env) fp
/-- what is said in every block of a comprehension -/
abbrev InB (X : Cx) (sc : Scope) (P : Cx → Prop) : Prop := ∀ (s : Shared) (H : Hp) (C : Addr) (cl : List (Str × Addr)) (fp : List Addr), P (Blk X sc s H C cl fp)
def gB (X : Cx) (sc : Scope) (tg : Expr) : TG := fun v σ H Q => ∀ s0 H0 C cl fp, uG (Blk X sc s0 H0 C cl fp) tg v σ H Q
def tB' (X : Cx) (sc : Scope) (ifs : List Expr) : TT := fun σ H Q => ∀ s0 H0 C cl fp, uTs (Blk X sc s0 H0 C cl fp) ifs σ H Q
def eB (X : Cx) (sc : Scope) (elt : Expr) : TE := fun σ H Q => ∀ s0 H0 C cl fp, uE (Blk X sc s0 H0 C cl fp) elt σ H Q
/-- what holds of the new list at the end -/
structure LcEnd (K : PySem.W.Frag) (G H : Hp) (A : List Addr) (Dd : Addr) (G2 H2 : Hp) (A2 : List Addr) (μ : MU) (acc : List Dt) : Prop where
  same : Same G G2
  hD : H Dd = none
  mv : Mv G A H G2 A2 H2
  sit : Sit K G2 H2 A2 μ
  nA : Dd ∉ A2
  nG : G2 Dd = none
  hv : ∃ av, H2 Dd = some (.lst av) ∧ DpAll K G2 av acc
/-- the reading of a comprehension -/
theorem lc_read0 {ds : List Dt} {elt : Expr} {ifs : List Expr} {sc : Scope} {vs : List Nat} (J : Nat → MU → List Dt → Prop) (hi : Itb X tg iter env μ μ1 ds) (h0 : J 0 μ1 [])
    (hs : ∀ i d μ acc, ds[i]? = some d → J i μ acc → ∃ env' ks b μ2, (∀ k ∈ ks, k ∈ vs) ∧ InB X sc (fun Y => Tg Y tg (.d d) (wipeE env vs) μ env' ks) ∧ InB X sc (fun Y => EvTs Y ifs env' μ μ2 b) ∧
      (b = true → ∃ y μ3, InB X sc (fun Y => Ev Y elt env' μ2 μ3 (.d y)) ∧ acc.length < sizeLine ∧ J (i + 1) μ3 (acc ++ [y])) ∧ (b = false → J (i + 1) μ2 acc))
    : ∀ σ G H A, InE X.K G A σ env → Sit X.K G H A μ → ∀ Q : VK, (∀ Dd G2 H2 A2 μ2 acc, J ds.length μ2 acc → LcEnd X.K G H A Dd G2 H2 A2 μ2 acc → Q (.ref Dd) H2) →
      tLc (uI X tg iter) (gB X sc tg) (tB' X sc ifs) (eB X sc elt) vs σ H Q := fun σ G H A E S Q q => by
  refine hi.run σ G H A E S _ fun It G1 H1 A1 e1 m1 S1 w1 D hD => ?_
  obtain ⟨Gd, Y, wk, hG, hY⟩ := w1.ex
  have hDA : D ∉ A1 := fun z => by
    obtain ⟨k, hk⟩ := List.getElem?_of_mem z
    exact S1.liv k D hk hD
  have gD : G1 D = none := S1.ex.free hD
  let Pv : Nat → Hp → Prop := fun i H2 => ∃ μ2 acc av G2 A2, J i μ2 acc ∧ Same G1 G2 ∧ Mv G1 A1 H1 G2 A2 H2 ∧ Sit X.K G2 H2 A2 μ2 ∧ D ∉ A2 ∧ G2 D = none ∧ H2 D = some (.lst av) ∧ DpAll X.K G2 av acc
  refine lc_it wk (g := gB X sc tg) (tt := tB' X sc ifs) (te := eB X sc elt) (vs := vs) (σ := σ) (Qd := fun H => Q (.ref D) H) Pv ⟨μ1, [], [], G1, A1, h0, Same.refl _, (Mv.refl G1 A1 H1).side hD, S1.side hDA gD, hDA, gD, upd_same, .nil⟩ ?_ ?_ ?_
  · rintro i H2 _ ⟨μ2, acc, av, G2, A2, _, e2, _, S2, _⟩
    exact hG H2 (e2.trans S2.ex)
  · rintro i v H2 H3 hi2 ⟨μ2, acc, av, G2, A2, i2, e2, m2, S2, nA, nG, hH, dd⟩ y
    have hdi : ds[i]? = some ds[i] := List.getElem?_eq_getElem hi2
    obtain ⟨env', ks, b, μ3, hk, ht, hb, hy, hn⟩ := hs i _ μ2 acc hdi i2
    have stay : ∀ {Ga Ha Aa Gb Hb Ab}, Mv Ga Aa Ha Gb Ab Hb → D ∉ Aa → Ga D = none → Ha D = some (.lst av) → D ∉ Ab ∧ Gb D = none ∧ Hb D = some (.lst av) := fun {Ga Ha Aa Gb Hb Ab} m n g h => by
      refine ⟨fun z => ?_, ?_, m.kp D _ h n⟩
      · obtain ⟨B, e, f⟩ := m.pre
        rw [e] at z
        rcases List.mem_append.mp z with z | z
        · exact n z
        · rw [f D z] at h; cases h
      · cases gz : Gb D with
        | none => rfl
        | some o =>
          rcases m.gr D (by rw [gz]; intro w; cases w) with z | z | z
          · exact absurd g z
          · rw [z] at h; cases h
          · exact absurd z n
    have go : ∀ G3 H3, Same G2 G3 → Mv G2 A2 H2 G3 A2 H3 → Sit X.K G3 H3 A2 μ2 → Dp X.K G3 v ds[i] → gB X sc tg v (L2.wipe σ vs) H3 fun σ4 H4 => L2.wipe σ4 vs = L2.wipe σ vs ∧ tB' X sc ifs σ4 H4 fun k H5 =>
        if k = true then eB X sc elt σ4 H5 fun w H6 => ∃ ac, H6 D = some (.lst ac) ∧ ac.length < sizeLine ∧ Pv (i + 1) (upd H6 D (.lst (ac ++ [w]))) else Pv (i + 1) H5 := fun G3 H3 e3 m3 S3 d3 s0 H0 C cl fp => by
      obtain ⟨n3, g3, h3⟩ := stay m3 nA nG hH
      have E3 : InE X.K G3 A2 (L2.wipe σ vs) (wipeE env vs) := (((E.mv e1 m1).mv e2 m2).mv e3 m3).wipe vs
      refine (ht s0 H0 C cl fp).run _ G3 H3 A2 v E3 S3 (.d d3) _ fun σ4 b4 E4 => ⟨wipe_but b4 hk, fun s0 H0 C cl fp => ?_⟩
      refine (hb s0 H0 C cl fp).run σ4 G3 H3 A2 E4 S3 _ fun G5 H5 A5 e5 m5 S5 => ?_
      obtain ⟨n5, g5, h5⟩ := stay m5 n3 g3 h3
      have dd5 := dpa_mono ((e3.trans e5)) dd
      cases b with
      | false => exact ⟨μ3, acc, av, G5, A5, hn rfl, (e2.trans e3).trans e5, (m2.trans m3).trans m5, S5, n5, g5, h5, dd5⟩
      | true =>
        obtain ⟨yd, μ4, hy, hl, j4⟩ := hy rfl
        intro s0 H0 C cl fp
        refine (hy s0 H0 C cl fp).run σ4 G5 H5 A5 (E4.mv e5 m5) S5 _ fun w G6 H6 A6 e6 m6 S6 r6 => ?_
        obtain ⟨n6, g6, h6⟩ := stay m6 n5 g5 h5
        refine ⟨av, h6, by rw [dpa_len dd]; exact hl, μ4, acc ++ [yd], av ++ [w], G6, A6, j4, ((e2.trans e3).trans e5).trans e6, (((m2.trans m3).trans m5).trans m6).side hD, S6.side n6 g6, n6, g6, upd_same, ?_⟩
        cases r6 with
        | d r6 => exact dpa_app (dpa_mono e6 dd5) (.cons r6 .nil)
    rcases hY i H2 v H3 _ y hdi with ⟨rfl, d⟩ | ⟨T, xs, es', rfl, hT, rfl, dd', hde⟩
    · exact go G2 _ (Same.refl _) (Mv.refl _ _ _) S2 (dp_mono e2 d)
    · refine go (upd G2 T (.tup xs)) _ (same_new (S2.ex.free hT)) (Mv.new hT) (S2.new hT) ?_
      rw [hde]
      exact .tup (.inl (.inl upd_same)) (dpa_mono (same_new (S2.ex.free hT)) (dpa_mono e2 dd'))
  · rintro H2 ⟨μ3, acc, av, G2, A2, i2, e2, m2, S2, nA, nG, hH, dd⟩
    have hD0 : H D = none := by
      cases z : H D with
      | none => rfl
      | some o => exact absurd hD (m1.up D (by rw [z]; intro w; cases w))
    exact q D G2 H2 A2 μ3 acc i2 ⟨e1.trans e2, hD0, m1.trans m2, S2, nA, nG, av, hH, dd⟩
theorem lc_read {ds out : List Dt} {elt : Expr} {ifs : List Expr} {sc : Scope} {vs : List Nat} (J : Nat → MU → List Dt → Prop) (hi : Itb X tg iter env μ μ1 ds) (h0 : J 0 μ1 [])
    (hs : ∀ i d μ acc, ds[i]? = some d → J i μ acc → ∃ env' ks b μ2, (∀ k ∈ ks, k ∈ vs) ∧ InB X sc (fun Y => Tg Y tg (.d d) (wipeE env vs) μ env' ks) ∧ InB X sc (fun Y => EvTs Y ifs env' μ μ2 b) ∧
      (b = true → ∃ y μ3, InB X sc (fun Y => Ev Y elt env' μ2 μ3 (.d y)) ∧ acc.length < sizeLine ∧ J (i + 1) μ3 (acc ++ [y])) ∧ (b = false → J (i + 1) μ2 acc))
    (hd : ∀ μ acc, J ds.length μ acc → μ = μ2 ∧ acc = out) (σ : L2.St) (G H : Hp) (A : List Addr) (E : InE X.K G A σ env) (S : Sit X.K G H A μ) (Q : VK) (q : PoE X.K G H A μ2 (.d (.list out)) Q) :
      tLc (uI X tg iter) (gB X sc tg) (tB' X sc ifs) (eB X sc elt) vs σ H Q :=
  lc_read0 J hi h0 hs σ G H A E S Q fun D G2 H2 A2 μ3 acc j L => by
    obtain ⟨rfl, rfl⟩ := hd _ _ j
    obtain ⟨av, hH, dd⟩ := L.hv
    have nA := L.nA
    have hs3 : Same G2 (upd G2 D (.lst av)) := same_new L.nG
    have S3 : Sit X.K (upd G2 D (.lst av)) H2 A2 μ3 := by
      refine ⟨fun b x h => ?_, L.sit.len, L.sit.nd, L.sit.liv, fun k a es ha hm => ?_⟩
      · by_cases hb : b = D
        · subst hb; rw [upd_same] at h; rw [hH]; exact h
        · rw [upd_ne hb] at h; exact L.sit.ex _ _ h
      · obtain ⟨g1, g2⟩ := L.sit.cl k a es ha hm
        have hne : a ≠ D := fun z => by subst z; exact nA (List.mem_of_getElem? ha)
        exact ⟨by rw [upd_ne hne]; exact g1, g2.keep hs3 fun u hu => hu⟩
    refine q _ (upd G2 D (.lst av)) H2 A2 (L.same.trans hs3) ⟨L.mv.pre, L.mv.kp, L.mv.up, fun a ha => ?_⟩ S3 (.d (.lst (.inl (.inl upd_same)) (dpa_mono hs3 dd)))
    by_cases hb : a = D
    · subst hb; exact .inr (.inl L.hD)
    · rw [upd_ne hb] at ha; exact L.mv.gr a ha
/-- the new list as one that may change -/
theorem lc_readC {ds out : List Dt} {elt : Expr} {ifs : List Expr} {sc : Scope} {vs : List Nat} (J : Nat → MU → List Dt → Prop) (hi : Itb X tg iter env μ μ1 ds) (h0 : J 0 μ1 [])
    (hs : ∀ i d μ acc, ds[i]? = some d → J i μ acc → ∃ env' ks b μ2, (∀ k ∈ ks, k ∈ vs) ∧ InB X sc (fun Y => Tg Y tg (.d d) (wipeE env vs) μ env' ks) ∧ InB X sc (fun Y => EvTs Y ifs env' μ μ2 b) ∧
      (b = true → ∃ y μ3, InB X sc (fun Y => Ev Y elt env' μ2 μ3 (.d y)) ∧ acc.length < sizeLine ∧ J (i + 1) μ3 (acc ++ [y])) ∧ (b = false → J (i + 1) μ2 acc))
    (hd : ∀ μ acc, J ds.length μ acc → μ = μ2 ∧ acc = out) (σ : L2.St) (G H : Hp) (A : List Addr) (E : InE X.K G A σ env) (S : Sit X.K G H A μ) (Q : VK) (q : PoE X.K G H A (μ2 ++ [some (Cl.lst out)]) (.c μ2.length) Q) :
      tLc (uI X tg iter) (gB X sc tg) (tB' X sc ifs) (eB X sc elt) vs σ H Q :=
  lc_read0 J hi h0 hs σ G H A E S Q fun D G2 H2 A2 μ3 acc j L => by
    obtain ⟨rfl, rfl⟩ := hd _ _ j
    obtain ⟨av, hH, dd⟩ := L.hv
    have nA := L.nA
    have hl := L.sit.len
    have last : ∀ k a, ¬ k < A2.length → (A2 ++ [D])[k]? = some a → k = A2.length ∧ a = D := fun k a hk ha => by
      have r := lt_get ha
      rw [List.length_append] at r
      have e : k = A2.length := by simp at r; omega
      subst e
      rw [List.getElem?_append_right (Nat.le_refl _), Nat.sub_self] at ha
      exact ⟨rfl, (Option.some.inj ha).symm⟩
    have S3 : Sit X.K G2 H2 (A2 ++ [D]) (μ3 ++ [some (Cl.lst acc)]) := by
      refine ⟨L.sit.ex, by rw [List.length_append, List.length_append, hl]; rfl, ?_, fun k a ha => ?_, fun k a es ha hm => ?_⟩
      · rw [List.nodup_append]
        refine ⟨L.sit.nd, by simp, fun a ha b hb => ?_⟩
        have hb : b = D := by simpa using hb
        subst hb
        intro e; subst e
        exact nA ha
      · by_cases hk : k < A2.length
        · rw [List.getElem?_append_left hk] at ha; exact L.sit.liv k a ha
        · obtain ⟨_, rfl⟩ := last k a hk ha
          rw [hH]; intro z; cases z
      · by_cases hk : k < A2.length
        · rw [List.getElem?_append_left hk] at ha
          rw [List.getElem?_append_left (by omega)] at hm
          exact L.sit.cl k a es ha hm
        · obtain ⟨rfl, rfl⟩ := last k a hk ha
          rw [hl, List.getElem?_append_right (Nat.le_refl _), Nat.sub_self] at hm
          have hm := Option.some.inj (Option.some.inj hm)
          subst hm
          exact ⟨L.nG, av, hH, dd⟩
    obtain ⟨B, hB, fB⟩ := L.mv.pre
    refine q _ G2 H2 (A2 ++ [D]) L.same ⟨⟨B ++ [D], by rw [hB, List.append_assoc], fun a ha => ?_⟩, L.mv.kp, L.mv.up, L.mv.gr⟩ S3 (.c (by rw [← hl, List.getElem?_append_right (Nat.le_refl _), Nat.sub_self]; rfl))
    rcases List.mem_append.mp ha with z | z
    · exact fB a z
    · have z : a = D := by simpa using z
      rw [z]; exact L.hD
theorem ev_lc {ds out : List Dt} {elt : Expr} {ifs : List Expr} {sc : Scope} {own : List (Str × Nat)} (J : Nat → MU → List Dt → Prop) (hc : X.calm = true) (hN : X.N.Nodup) (ok : BlkOk X.N X.env.scope sc own) (hi : Itb X tg iter env μ μ1 ds) (h0 : J 0 μ1 [])
    (hs : ∀ i d μ acc, ds[i]? = some d → J i μ acc → ∃ env' ks b μ2, (∀ k ∈ ks, k ∈ own.map (·.2)) ∧ InB X sc (fun Y => Tg Y tg (.d d) (wipeE env (own.map (·.2))) μ env' ks) ∧ InB X sc (fun Y => EvTs Y ifs env' μ μ2 b) ∧
      (b = true → ∃ y μ3, InB X sc (fun Y => Ev Y elt env' μ2 μ3 (.d y)) ∧ acc.length < sizeLine ∧ J (i + 1) μ3 (acc ++ [y])) ∧ (b = false → J (i + 1) μ2 acc))
    (hd : ∀ μ acc, J ds.length μ acc → μ = μ2 ∧ acc = out) (hf : ∀ x, foldedSetIterable iter X.env x = pure x := by intro _; rfl) : Ev X (.ListComp elt [⟨tg, iter, ifs, 0⟩] sc pos) env μ μ2 (.d (.list out)) := .mk fun σ G H A E S Q q pins s I =>
  (pe_lc (own := own) hc hN pI ok (fun s0 H0 C cl fp => ⟨fun pins s σ H v u Q I r h => h s0 H0 C cl fp pins s u I r⟩) (fun s0 H0 C cl fp => ⟨fun pins s σ H Q I h => h s0 H0 C cl fp pins s I⟩) (fun s0 H0 C cl fp => ⟨fun pins s σ H Q I h => h s0 H0 C cl fp pins s I⟩) hf).run pins s σ H Q I
    (lc_read J hi h0 hs hd σ G H A E S Q q)
/-- the same, to be changed later -/
theorem ev_lcC {ds out : List Dt} {elt : Expr} {ifs : List Expr} {sc : Scope} {own : List (Str × Nat)} (J : Nat → MU → List Dt → Prop) (hc : X.calm = true) (hN : X.N.Nodup) (ok : BlkOk X.N X.env.scope sc own) (hi : Itb X tg iter env μ μ1 ds) (h0 : J 0 μ1 [])
    (hs : ∀ i d μ acc, ds[i]? = some d → J i μ acc → ∃ env' ks b μ2, (∀ k ∈ ks, k ∈ own.map (·.2)) ∧ InB X sc (fun Y => Tg Y tg (.d d) (wipeE env (own.map (·.2))) μ env' ks) ∧ InB X sc (fun Y => EvTs Y ifs env' μ μ2 b) ∧
      (b = true → ∃ y μ3, InB X sc (fun Y => Ev Y elt env' μ2 μ3 (.d y)) ∧ acc.length < sizeLine ∧ J (i + 1) μ3 (acc ++ [y])) ∧ (b = false → J (i + 1) μ2 acc))
    (hd : ∀ μ acc, J ds.length μ acc → μ = μ2 ∧ acc = out) (hf : ∀ x, foldedSetIterable iter X.env x = pure x := by intro _; rfl) : Ev X (.ListComp elt [⟨tg, iter, ifs, 0⟩] sc pos) env μ (μ2 ++ [some (Cl.lst out)]) (.c μ2.length) := .mk fun σ G H A E S Q q pins s I =>
  (pe_lc (own := own) hc hN pI ok (fun s0 H0 C cl fp => ⟨fun pins s σ H v u Q I r h => h s0 H0 C cl fp pins s u I r⟩) (fun s0 H0 C cl fp => ⟨fun pins s σ H Q I h => h s0 H0 C cl fp pins s I⟩) (fun s0 H0 C cl fp => ⟨fun pins s σ H Q I h => h s0 H0 C cl fp pins s I⟩) hf).run pins s σ H Q I
    (lc_readC J hi h0 hs hd σ G H A E S Q q)
/-- y = [..] on one line -/
theorem b1_setLc (k : Nat) {nm : Str} {ds out : List Dt} {elt : Expr} {ifs : List Expr} {sc : Scope} {own : List (Str × Nat)} {lp : Pos} (J : Nat → MU → List Dt → Prop) (hc : X.calm = true) (hN : X.N.Nodup) (hy : X.N[k]? = some nm) (hyl : X.env.scope.names.lookup nm = some .local)
    (hsw : swapsWith (.ListComp elt [⟨tg, iter, ifs, 0⟩] sc lp) (some (.Name nm pos')) pos.line X.env = pure true) (ok : BlkOk X.N X.env.scope sc own) (hi : Itb X tg iter env μ μ1 ds) (h0 : J 0 μ1 [])
    (hs : ∀ i d μ acc, ds[i]? = some d → J i μ acc → ∃ env' ks b μ2, (∀ k ∈ ks, k ∈ own.map (·.2)) ∧ InB X sc (fun Y => Tg Y tg (.d d) (wipeE env (own.map (·.2))) μ env' ks) ∧ InB X sc (fun Y => EvTs Y ifs env' μ μ2 b) ∧
      (b = true → ∃ y μ3, InB X sc (fun Y => Ev Y elt env' μ2 μ3 (.d y)) ∧ acc.length < sizeLine ∧ J (i + 1) μ3 (acc ++ [y])) ∧ (b = false → J (i + 1) μ2 acc))
    (hd : ∀ μ acc, J ds.length μ acc → μ = μ2 ∧ acc = out) (hn : D.nx (env.set k (some (.d (.list out)))) μ2) (hf : ∀ x, foldedSetIterable iter X.env x = pure x := by intro _; rfl) : B1 X (.Assign [.Name nm pos'] (.ListComp elt [⟨tg, iter, ifs, 0⟩] sc lp) pos) env μ D := .mk fun σ G H A E S N q pins s I =>
  (ps_setLc (own := own) hc hN hy hyl hsw pI ok (fun s0 H0 C cl fp => ⟨fun pins s σ H v u Q I r h => h s0 H0 C cl fp pins s u I r⟩) (fun s0 H0 C cl fp => ⟨fun pins s σ H Q I h => h s0 H0 C cl fp pins s I⟩) (fun s0 H0 C cl fp => ⟨fun pins s σ H Q I h => h s0 H0 C cl fp pins s I⟩) hf).run pins s σ H N I
    (lc_read J hi h0 hs hd σ G H A E S _ fun v G1 H1 A1 e1 p1 S1 r1 => q.nx _ μ2 _ G1 H1 A1 hn e1 p1 ((E.mv e1 p1).set r1 k) S1)
end

/-! ### defs -/
def startE (N : List Str) (xs : List DE) : LE := xs.map some ++ List.replicate (N.length - xs.length) none
theorem rp_get {K : PySem.W.Frag} {G : Hp} {A : List Addr} : ∀ {vs : List V} {xs : List DE} {i : Nat} {x : DE}, RpL K G A vs xs → xs[i]? = some x → ∃ v, vs[i]? = some v ∧ Rp K G A v x
  | _, _, _, _, .nil, h => by simp at h
  | _, _, 0, _, .cons h _, e => by
    have e := Option.some.inj e
    subst e
    exact ⟨_, rfl, h⟩
  | _, _, i + 1, _, .cons _ hs, e => rp_get (i := i) hs e
theorem InE.start {K : PySem.W.Frag} {G : Hp} {A : List Addr} {N : List Str} {vs : List V} {xs : List DE} (h : RpL K G A vs xs) : InE K G A (L2.start N vs) (startE N xs) := by
  have hl := h.len
  refine ⟨by unfold L2.start startE; simp [hl], fun i x e => ?_⟩
  unfold startE at e
  rcases Nat.lt_or_ge i xs.length with q | q
  · rw [List.getElem?_append_left (by rw [List.length_map]; exact q), List.getElem?_map] at e
    cases z : xs[i]? with
    | none => rw [z] at e; cases e
    | some y =>
      rw [z] at e
      have e : y = x := Option.some.inj (Option.some.inj e)
      subst e
      obtain ⟨v, h1, h2⟩ := rp_get h z
      refine ⟨v, ?_, h2⟩
      unfold L2.start
      rw [List.getElem?_append_left (by rw [List.length_map, hl]; exact q), List.getElem?_map, h1]
      rfl
  · rw [List.getElem?_append_right (by rw [List.length_map]; exact q)] at e
    exact absurd (List.mem_of_getElem? e) (by
      intro z
      have := List.eq_of_mem_replicate z
      cases this)
/-- THE RULE for a def -/
theorem fn_d {P : Program} {w : World} {K : PySem.W.Frag} {mg : Str → Option Value} {base : Heap} {nm qual : Str} {st : Stmt} {f : Addr} {fd : FuncData} {N ps : List Str} {k : Nat} {Φ : Phi} (F : Fun K nm qual st f fd) (S : FnScope N ps (defScope st)) (len : ∀ xs μ μ' r, Φ xs μ μ' r → xs.length = ps.length)
    (hbody : ∀ (cdv : Value) (A : Around) (outer : List PySem.Env) (s : Shared) (H : Hp) (E : XK), Room k (A.deeper (envOfC qual (defScope st) s.heap.objs.size f cdv)) → ∀ xs μ μ' r, Φ xs μ μ' r →
      Bs (cxOf CX0 P w K mg base N qual (defScope st) f cdv A outer s H E).nox (defBody st) (startE N xs) μ { nx := fun _ m => (∃ ν, m = μ' ++ ν) ∧ r = .d .none, rt := fun y m => (∃ ν, m = μ' ++ ν) ∧ y = r ∧ ∀ c, r = .c c → c < μ'.length })
    (hgrow : ∀ xs μ μ' r, Φ xs μ μ' r → μ.length ≤ μ'.length) : FnOk P w K mg base CX0 (k + 1) f fd ps (SpD K Φ) := by
  refine F.ok S (fun vs H Q E h => ?_) fun cdv A outer s H vs Q E hr h => ?_
  · obtain ⟨G, B, xs, μ, μ', r, h1, h2, h3, h4⟩ := h
    rw [h3.len]
    exact len xs μ μ' r h1
  · obtain ⟨G, B, xs, μ, μ', r, h1, h2, h3, h4⟩ := h
    have hb := hbody cdv A outer s H E hr xs μ μ' r h1
    have hg := hgrow xs μ μ' r h1
    refine ⟨_, pSs, hb.run (L2.start N vs) G H B (InE.start h3) h2 _ ⟨?_, fun _ _ _ _ _ _ z => z.elim, fun _ _ _ _ _ _ z => z.elim, ?_⟩⟩
    · rintro env1 μ1 σ1 G1 H1 A1 ⟨⟨ν, rfl⟩, rfl⟩ e1 m1 E1 S1
      obtain ⟨C, hC, hf⟩ := m1.pre
      have hl1 := S1.len
      have hl := h2.len
      rw [List.length_append] at hl1
      have hA : A1.take μ'.length = B ++ C.take (μ'.length - μ.length) := by
        rw [hC, List.take_append, List.take_of_length_le (by omega), hl]
      refine h4 .non G1 H1 (A1.take μ'.length) e1 ⟨⟨_, hA, fun a ha => hf a (List.mem_of_mem_take ha)⟩, m1.kp, m1.up, m1.gr⟩ S1.cut (.d .non)
    · rintro y μ1 ⟨⟨ν, rfl⟩, rfl, hcc⟩ v G1 H1 A1 e1 m1 S1 r1
      obtain ⟨C, hC, hf⟩ := m1.pre
      have hl1 := S1.len
      have hl := h2.len
      rw [List.length_append] at hl1
      have hA : A1.take μ'.length = B ++ C.take (μ'.length - μ.length) := by
        rw [hC, List.take_append, List.take_of_length_le (by omega), hl]
      refine h4 v G1 H1 (A1.take μ'.length) e1 ⟨⟨_, hA, fun a ha => hf a (List.mem_of_mem_take ha)⟩, m1.kp, m1.up, m1.gr⟩ S1.cut ?_
      cases r1 with
      | d r => exact .d r
      | @c k a ha => exact .c (by rw [List.getElem?_take_of_lt (hcc k rfl)]; exact ha)
      | z h n l => exact .z h n l
      | p h n l => exact .p h n l
end Rw
/-! RwM: fractions as rationals, their sizes, drawing. -/
namespace Rw
open PySem L2

/-- a fraction as the program writes it -/
def rD (x : Rat) : Dt := .tuple [.int x.num, .int (x.den : Int)]
/-- both numbers below 2 ^ n -/
def Sz (n : Nat) (x : Rat) : Prop := x.num.natAbs < 2 ^ n ∧ x.den < 2 ^ n
theorem Sz.mono {n m : Nat} {x : Rat} (h : Sz n x) (k : n ≤ m) : Sz m x := ⟨Nat.lt_of_lt_of_le h.1 (Nat.pow_le_pow_right (by omega) k), Nat.lt_of_lt_of_le h.2 (Nat.pow_le_pow_right (by omega) k)⟩
theorem dn_pos (x : Rat) : 0 < (x.den : Int) := by have := x.den_nz; omega
theorem mk_num {t b : Int} (hb : 0 < b) : t / (Nat.gcd t.natAbs b.toNat : Int) = (mkRat t b.toNat).num := by
  rw [Rat.num_mkRat, if_neg (by omega), Nat.gcd_comm]
theorem mk_den {t b : Int} (hb : 0 < b) : b / (Nat.gcd t.natAbs b.toNat : Int) = ((mkRat t b.toNat).den : Int) := by
  rw [Rat.den_mkRat, if_neg (by omega), Nat.gcd_comm]
  rw [Int.natCast_ediv, Int.toNat_of_nonneg (by omega)]
theorem mk_sz {t : Int} {b n : Nat} (hb : 0 < b) (h1 : t.natAbs < 2 ^ n) (h2 : b < 2 ^ n) : Sz n (mkRat t b) := by
  refine ⟨?_, ?_⟩
  · rw [Rat.num_mkRat, if_neg (by omega)]
    exact Nat.lt_of_le_of_lt (Int.natAbs_ediv_le_natAbs _ _) h1
  · rw [Rat.den_mkRat, if_neg (by omega)]
    exact Nat.lt_of_le_of_lt (Nat.div_le_self _ _) h2
theorem pw_mul {a b n m : Nat} (h1 : a < 2 ^ n) (h2 : b < 2 ^ m) : a * b < 2 ^ (n + m) := by rw [Nat.pow_add]; exact Nat.mul_lt_mul'' h1 h2
theorem pw_mulI {a b : Int} {n m : Nat} (h1 : a.natAbs < 2 ^ n) (h2 : b.natAbs < 2 ^ m) : (a * b).natAbs < 2 ^ (n + m) := by rw [Int.natAbs_mul]; exact pw_mul h1 h2
theorem pw_up {a n m : Nat} (h : a < 2 ^ n) (k : n ≤ m) : a < 2 ^ m := Nat.lt_of_lt_of_le h (Nat.pow_le_pow_right (by omega) k)
theorem pw_add {a b : Int} {n : Nat} (h1 : a.natAbs < 2 ^ n) (h2 : b.natAbs < 2 ^ n) : (a + b).natAbs < 2 ^ (n + 1) := by rw [Nat.pow_succ]; omega
theorem pw_sub {a b : Int} {n : Nat} (h1 : a.natAbs < 2 ^ n) (h2 : b.natAbs < 2 ^ n) : (a - b).natAbs < 2 ^ (n + 1) := by rw [Nat.pow_succ]; omega
theorem natAbs_cast (n : Nat) : ((n : Int)).natAbs = n := Int.natAbs_natCast n
theorem Sz.dn {n : Nat} {x : Rat} (h : Sz n x) : ((x.den : Int)).natAbs < 2 ^ n := by rw [natAbs_cast]; exact h.2
theorem den_mul_pos (x y : Rat) : 0 < x.den * y.den := Nat.mul_pos (Nat.pos_of_ne_zero x.den_nz) (Nat.pos_of_ne_zero y.den_nz)
theorem Sz.add {n m : Nat} {x y : Rat} (h : Sz n x) (k : Sz m y) : Sz (n + m + 1) (x + y) := by
  rw [Rat.add_def']
  refine mk_sz (den_mul_pos x y) (pw_add (pw_mulI h.1 k.dn) ?_) (pw_up (pw_mul h.2 k.2) (by omega))
  rw [Nat.add_comm n m]; exact pw_mulI k.1 h.dn
theorem Sz.neg {n : Nat} {x : Rat} (h : Sz n x) : Sz n (-x) := ⟨by rw [Rat.neg_num, Int.natAbs_neg]; exact h.1, h.2⟩
theorem Sz.sub {n m : Nat} {x y : Rat} (h : Sz n x) (k : Sz m y) : Sz (n + m + 1) (x - y) := by
  rw [Rat.sub_eq_add_neg]; exact h.add k.neg
theorem Sz.int {n : Nat} {w : Int} (h : w.natAbs < 2 ^ n) (h0 : 0 < n) : Sz n (w : Rat) := ⟨h, Nat.one_lt_two_pow (by omega)⟩
theorem Sz.mul {n m : Nat} {x y : Rat} (h : Sz n x) (k : Sz m y) : Sz (n + m) (x * y) := by
  rw [Rat.mul_def']
  exact mk_sz (den_mul_pos x y) (pw_mulI h.1 k.1) (pw_mul h.2 k.2)
/-! ### the program's ways of reckoning -/
theorem mk_add (x y : Rat) : mkRat (x.num * (y.den : Int) + y.num * (x.den : Int)) ((x.den : Int) * (y.den : Int)).toNat = x + y := by
  rw [Rat.add_def', ← Int.natCast_mul, Int.toNat_natCast]
theorem mk_sub (x y : Rat) : mkRat (x.num * (y.den : Int) - y.num * (x.den : Int)) ((x.den : Int) * (y.den : Int)).toNat = x - y := by
  rw [Rat.sub_def', ← Int.natCast_mul, Int.toNat_natCast]
theorem mk_times (x : Rat) (w : Int) : mkRat (x.num * w) ((x.den : Int)).toNat = x * (w : Rat) := by
  rw [Rat.mul_def', Int.toNat_natCast, Rat.num_intCast, Rat.den_intCast, Nat.mul_one]
theorem mk_shared (x : Rat) {w : Int} (hw : 0 < w) : mkRat x.num ((x.den : Int) * w).toNat = x / (w : Rat) := by
  have e : w = ((w.toNat : Nat) : Int) := (Int.toNat_of_nonneg (by omega)).symm
  rw [e, ← Int.natCast_mul, Int.toNat_natCast, Rat.mkRat_eq_div]
  have hx : x = (x.num : Rat) / (x.den : Rat) := by
    rw [← Rat.mkRat_eq_div, Rat.mkRat_self]
  have h1 : ((x.den : Nat) : Rat) ≠ 0 := by
    intro z; exact x.den_nz (Rat.natCast_eq_zero_iff.mp z)
  have h2 : ((w.toNat : Nat) : Rat) ≠ 0 := by
    intro z; have := Rat.natCast_eq_zero_iff.mp z; omega
  rw [Rat.natCast_mul, Rat.intCast_natCast]
  conv => rhs; rw [hx]
  grind
theorem le_so (x y : Rat) : decide (x.num * (y.den : Int) ≤ y.num * (x.den : Int)) = decide (x ≤ y) := by
  rw [decide_eq_decide]; exact (Rat.le_iff x y).symm
theorem lt_so (x y : Rat) : decide (x.num * (y.den : Int) < y.num * (x.den : Int)) = decide (x < y) := by
  rw [decide_eq_decide]; exact (Rat.lt_iff x y).symm
theorem rD_int (w : Int) : rD (w : Rat) = .tuple [.int w, .int 1] := rfl
theorem rD_zero : rD 0 = .tuple [.int 0, .int 1] := rfl
theorem rD_neg (x : Rat) : rD (-x) = .tuple [.int (-x.num), .int (x.den : Int)] := rfl
/-! ### equality of data -/
theorem shaped_rD (x : Rat) : SeqAt.shaped (rD x) = true := by
  unfold SeqAt.shaped rD; simp [PyData.canLay0, PyData.canLayAll0, PyData.depth, PyData.depthAll]
end Rw
namespace Rw
open PySem L2
theorem shaped_int (i : Int) : SeqAt.shaped (.int i) = true := by unfold SeqAt.shaped; simp [PyData.canLay0, PyData.depth]
theorem shaped_bool (i : Bool) : SeqAt.shaped (.bool i) = true := by unfold SeqAt.shaped; simp [PyData.canLay0, PyData.depth]
theorem shaped_none : SeqAt.shaped .none = true := by unfold SeqAt.shaped; simp [PyData.canLay0, PyData.depth]
end Rw
namespace Rw
open PySem L2
theorem eqv_int (a b : Int) : PyData.eqv (.int a) (.int b) = decide (a = b) := by
  rw [PyData.eqv]
  by_cases h : a = b
  · subst h; rw [decide_eq_true rfl]; exact beq_self_eq_true a
  · rw [decide_eq_false h]; exact beq_eq_false_iff_ne.mpr h
end Rw
/-! RwN: defs that change nothing, defs that draw. -/
namespace Rw
open PySem PySem.Spec PyProof.Rows L2
theorem ln {n : Nat} (h : n ≤ 1000) : n ≤ sizeLine := Nat.le_trans h (by decide)
theorem lnl {n : Nat} (h : n < 1000) : n < sizeLine := Nat.lt_of_lt_of_le h (by decide)
theorem mu_end (μ : MU) : ∃ ν, μ = μ ++ ν := ⟨[], (List.append_nil μ).symm⟩
/-- a def that changes nothing: its arguments t, under pre, give res t -/
def phP {α : Type} (pre : α → Prop) (arg : α → List DE) (res : α → Dt) : Phi := fun xs μ μ' r => ∃ t, pre t ∧ xs = arg t ∧ μ' = μ ∧ r = .d (res t)
theorem phP.mk {α : Type} {pre : α → Prop} {arg : α → List DE} {res : α → Dt} (t : α) {μ : MU} (h : pre t) : phP pre arg res (arg t) μ μ (.d (res t)) := ⟨t, h, rfl, rfl, rfl⟩
def dnP (μ : MU) (d : Dt) : DN := { nx := fun _ m => (∃ ν, m = μ ++ ν) ∧ d = .none, rt := fun y m => (∃ ν, m = μ ++ ν) ∧ y = .d d }
theorem fn_p {α : Type} {pre : α → Prop} {arg : α → List DE} {res : α → Dt} {P : Program} {w : World} {K : PySem.W.Frag} {mg : Str → Option Value} {base : Heap} {nm qual : Str} {st : Stmt} {f : Addr} {fd : FuncData} {N ps : List Str} {k : Nat} (F : Fun K nm qual st f fd) (S : FnScope N ps (defScope st)) (len : ∀ t, (arg t).length = ps.length)
    (hbody : ∀ (cdv : Value) (A : Around) (outer : List PySem.Env) (s : Shared) (H : Hp) (E : XK), Room k (A.deeper (envOfC qual (defScope st) s.heap.objs.size f cdv)) → ∀ t, pre t → ∀ μ,
      Bs (cxOf CX0 P w K mg base N qual (defScope st) f cdv A outer s H E).nox (defBody st) (startE N (arg t)) μ (dnP μ (res t))) : FnOk P w K mg base CX0 (k + 1) f fd ps (SpD K (phP pre arg res)) := by
  refine fn_d F S (fun xs μ μ' r h => ?_) (fun cdv A outer s H E hr xs μ μ' r h => ?_) (fun xs μ μ' r h => ?_)
  · obtain ⟨t, _, rfl, _⟩ := h; exact len t
  · obtain ⟨t, hp, rfl, rfl, rfl⟩ := h
    exact (hbody cdv A outer s H E hr t hp _).imp (fun _ _ z => ⟨z.1, by rw [z.2]⟩) (fun _ _ z => ⟨z.1, z.2, fun c q => by cases q⟩) (fun _ _ z => z) fun _ _ z => z
  · obtain ⟨t, _, _, rfl, _⟩ := h; exact Nat.le_refl _

/-! ### drawing -/
structure Bag where
  a : Int
  b : Int
def Bag.l (s : Bag) : List Dt := [.int s.a, .int s.b]
def Bag.d (s : Bag) : Cl := .lst s.l
def Bag.ok (s : Bag) : Prop := 0 ≤ s.a ∧ 0 ≤ s.b ∧ s.b < 2147483647
@[irreducible] def takeB (s : Bag) (n : Int) : Bag := if 0 < s.a then ⟨s.a / n, s.b⟩ else ⟨s.a, s.b * 48271 % 2147483647⟩
@[irreducible] def takeV (s : Bag) (n : Int) : Int := if 0 < s.a then s.a % n else (s.b * 48271 % 2147483647) * (s.b * 48271 % 2147483647) % 2147483629 / 64 % n
theorem take_lo (s : Bag) {n : Int} (h : 0 < n) : 0 ≤ takeV s n := by
  unfold takeV; split <;> exact Int.emod_nonneg _ (by omega)
theorem take_hi (s : Bag) {n : Int} (h : 0 < n) : takeV s n < n := by
  unfold takeV; split <;> exact Int.emod_lt_of_pos _ h
theorem take_ok {s : Bag} {n : Int} (h : 0 < n) (hs : s.ok) : (takeB s n).ok := by
  obtain ⟨h1, h2, h3⟩ := hs
  unfold takeB
  split
  · exact ⟨Int.ediv_nonneg h1 (by omega), h2, h3⟩
  · exact ⟨h1, Int.emod_nonneg _ (by omega), Int.emod_lt_of_pos _ (by omega)⟩
/-- a def that draws from the bag, its first argument: bag' and res by t and the bag -/
def phB {α : Type} (pre : α → Prop) (arg : α → List DE) (bag' : α → Bag → Bag) (res : α → Bag → Dt) : Phi := fun xs μ μ' r => ∃ t k s, pre t ∧ Bag.ok s ∧ xs = .c k :: arg t ∧ μ[k]? = some (some s.d) ∧ μ' = μ.set k (some (bag' t s).d) ∧ r = .d (res t s)
theorem phB.mk {α : Type} {pre : α → Prop} {arg : α → List DE} {bag' : α → Bag → Bag} {res : α → Bag → Dt} (t : α) {k : Nat} {s : Bag} {μ : MU} (h : pre t) (hs : s.ok) (hk : μ[k]? = some (some s.d)) : phB pre arg bag' res (.c k :: arg t) μ (μ.set k (some (bag' t s).d)) (.d (res t s)) := ⟨t, k, s, h, hs, rfl, hk, rfl, rfl⟩
theorem fn_b {α : Type} {pre : α → Prop} {arg : α → List DE} {bag' : α → Bag → Bag} {res : α → Bag → Dt} {P : Program} {w : World} {K : PySem.W.Frag} {mg : Str → Option Value} {base : Heap} {nm qual : Str} {st : Stmt} {f : Addr} {fd : FuncData} {N ps : List Str} {k : Nat} (F : Fun K nm qual st f fd) (S : FnScope N ps (defScope st)) (len : ∀ t, (arg t).length + 1 = ps.length)
    (hbody : ∀ (cdv : Value) (A : Around) (outer : List PySem.Env) (s : Shared) (H : Hp) (E : XK), Room k (A.deeper (envOfC qual (defScope st) s.heap.objs.size f cdv)) → ∀ t, pre t → ∀ (μ : MU) (c : Nat) (g : Bag), g.ok → μ[c]? = some (some g.d) →
      Bs (cxOf CX0 P w K mg base N qual (defScope st) f cdv A outer s H E).nox (defBody st) (startE N (.c c :: arg t)) μ (dnP (μ.set c (some (bag' t g).d)) (res t g))) : FnOk P w K mg base CX0 (k + 1) f fd ps (SpD K (phB pre arg bag' res)) := by
  refine fn_d F S (fun xs μ μ' r h => ?_) (fun cdv A outer s H E hr xs μ μ' r h => ?_) (fun xs μ μ' r h => ?_)
  · obtain ⟨t, c, g, _, _, rfl, _⟩ := h; exact len t
  · obtain ⟨t, c, g, hp, hg, rfl, hk, rfl, rfl⟩ := h
    exact (hbody cdv A outer s H E hr t hp _ c g hg hk).imp (fun _ _ z => ⟨z.1, by rw [z.2]⟩) (fun _ _ z => ⟨z.1, z.2, fun c q => by cases q⟩) (fun _ _ z => z) fun _ _ z => z
  · obtain ⟨t, c, g, _, _, _, _, rfl, _⟩ := h; rw [List.length_set]; exact Nat.le_refl _
theorem bag_at {μ : MU} {c : Nat} {x : Option Cl} {l : Cl} (h : μ[c]? = some x) : (μ.set c (some l))[c]? = some (some l) := List.getElem?_set_self (lt_get h)
theorem set2 (μ : MU) (c : Nat) (x y : Option Cl) : (μ.set c x).set c y = μ.set c y := List.set_set ..

/-! ### sizes -/
theorem small_mul {i j : Int} (h : i.natAbs < 2 ^ 4000) (h' : j.natAbs < 2 ^ 4000) : CMulW i j := wide_mul h h' (by omega) (by omega) (by omega)
theorem sm {i : Int} (h : -(2 ^ 62) < i) (h' : i < 2 ^ 62) : i.natAbs < 2 ^ 4000 := Nat.lt_of_lt_of_le (show i.natAbs < 2 ^ 62 by omega) (Nat.pow_le_pow_right (by omega) (by omega))
theorem div_ok {i j : Int} (h : 0 < j) (h' : j.natAbs < 2 ^ 4000) : CDivW i j := wide_div h h' (by omega) (by omega)
theorem div_ok9 {i j : Int} (h : 0 < j) (h' : j.natAbs < 2 ^ 8000) : CDivW i j := wide_div h h' (by omega) (by omega)

/-! ### the greatest common divisor -/
theorem gcd_step {a b : Int} (ha : 0 ≤ a) (hb : 0 < b) : Nat.gcd b.toNat (a % b).toNat = Nat.gcd a.toNat b.toNat := by
  obtain ⟨x, rfl⟩ : ∃ x : Nat, a = x := ⟨a.toNat, by omega⟩
  obtain ⟨y, rfl⟩ : ∃ y : Nat, b = y := ⟨b.toNat, by omega⟩
  have e : ((x : Int) % (y : Int)).toNat = x % y := by rw [← Int.natCast_emod, Int.toNat_natCast]
  rw [e, Int.toNat_natCast, Int.toNat_natCast, Nat.gcd_comm, ← Nat.gcd_rec, Nat.gcd_comm]
/-- the turns of the while -/
structure GcdI (a b x y : Int) : Prop where
  hx : 0 ≤ x
  hy : 0 ≤ y
  e : Nat.gcd x.toNat y.toNat = Nat.gcd a.toNat b.toNat
theorem GcdI.turn {a b x y : Int} (h : GcdI a b x y) (hy : 0 < y) : GcdI a b y (x % y) ∧ (x % y).toNat < y.toNat := by
  have h1 : 0 ≤ x % y := Int.emod_nonneg _ (by omega)
  have h2 : x % y < y := Int.emod_lt_of_pos _ hy
  exact ⟨⟨h.hy, h1, (gcd_step h.hx hy).trans h.e⟩, by omega⟩
theorem GcdI.stop {a b x y : Int} (h : GcdI a b x y) (hy : ¬ 0 < y) : x = (Nat.gcd a.toNat b.toNat : Nat) := by
  have e : y = 0 := by have := h.hy; omega
  have := h.e
  rw [e, Int.toNat_zero, Nat.gcd_zero_right] at this
  rw [← this]
  exact (Int.toNat_of_nonneg h.hx).symm
def env2i : LE → MU → Nat
  | [_, some (.d (.int y))], _ => y.toNat
  | _, _ => 0
def env4i : LE → MU → Nat
  | [_, _, _, some (.d (.int y))], _ => y.toNat
  | _, _ => 0
end Rw
/-! RwZ: zip of two and of three tuples. -/
namespace Rw
open PySem PySem.Spec PyProof.Rows L2
/-! lists (true) and tuples (false) that are walked -/
def SqK (k : Bool) (K : PySem.W.Frag) (H : Hp) (a : Addr) (xs : List V) : Prop := match k with
  | true => SqL K H a xs
  | false => SqT K H a xs
def ItK (k : Bool) (h : Heap) (it a : Addr) (i : Nat) : Prop := match k with
  | true => h.IsListIter it a i
  | false => h.IsTupleIter it a i
def SeqK (k : Bool) (h : Heap) (a : Addr) (items : Array Value) : Prop := match k with
  | true => h.IsList a items
  | false => h.IsTuple a items
def seqD (k : Bool) (ds : List Dt) : Dt := match k with
  | true => .list ds
  | false => .tuple ds
def objK (k : Bool) (a : Addr) : Obj := match k with
  | true => { cls := .type "list_iterator", data := .fields #[.ref a, .int 0 0] }
  | false => { cls := .type "tuple_iterator", data := .fields #[.ref a, .int 0 0] }
theorem sqk_mono {k : Bool} {K : PySem.W.Frag} {G G' : Hp} {a : Addr} {xs : List V} (e : Same G G') (h : SqK k K G a xs) : SqK k K G' a xs := by
  cases k with
  | true => exact e.seq h
  | false => exact sqt_mono e h
theorem itk_obj {k : Bool} {h : Heap} {it a : Addr} {i : Nat} (t : ItK k h it a i) : ∃ o, h.get? it = some o ∧ ∀ v, o.data ≠ .cell v := by
  cases k with
  | true => obtain ⟨o, e, _, d⟩ := t; exact ⟨o, e, fun v q => by rw [d] at q; cases q⟩
  | false => obtain ⟨o, e, _, d⟩ := t; exact ⟨o, e, fun v q => by rw [d] at q; cases q⟩
theorem itk_at {k : Bool} {h h' : Heap} {it a : Addr} {i : Nat} (t : ItK k h it a i) (hk : ∀ o, h.get? it = some o → h'.get? it = some o) : ItK k h' it a i := by
  cases k with
  | true => exact Heap.IsListIter.at t hk
  | false => exact Heap.IsTupleIter.at t hk
theorem seqk_of {k : Bool} {X : Cx} {pins : List (Addr × Obj)} {σ : L2.St} {H : Hp} {s : Shared} {a : Addr} {xs : List V} (I : L2.Inv X pins σ H s) (h : SqK k X.K H a xs) : ∃ its : List Value, Vals xs its ∧ SeqK k s.heap a its.toArray ∧ a < s.heap.objs.size := by
  cases k with
  | true =>
    obtain ⟨t, r, p, _⟩ := I.list h
    exact ⟨t, r, p.isList, p.lt⟩
  | false =>
    obtain ⟨t, r, p, _⟩ := I.tuple h
    refine ⟨t, r, p, ?_⟩
    obtain ⟨_, q, _⟩ := id p
    exact Heap.lt_size q
theorem sqk_inj {k : Bool} {X : Cx} {pins : List (Addr × Obj)} {σ : L2.St} {H : Hp} {s : Shared} {a : Addr} {xs ys : List V} (I : L2.Inv X pins σ H s) (h : SqK k X.K H a xs) (h' : SqK k X.K H a ys) : xs = ys := by
  cases k with
  | true => exact I.list_inj h h'
  | false => exact I.tuple_inj h h'
theorem draws_k {k : Bool} {prog : Program} {w : World} {A : Around} (hh : A.handled = none) (it l : Addr) (hne : l ≠ it) (items : Array Value) :
    Draws prog w A it [it, l] items.size (fun i v => items[i]? = some v) (fun i h => ItK k h it l i ∧ SeqK k h l items) := by
  cases k with
  | true => exact Draws.list hh it l hne items
  | false => exact Draws.tuple hh it l hne items
theorem begins_k {k : Bool} (l : Addr) (items : Array Value) : Begins (.ref l) (objK k l) fun h => SeqK k h l items := by
  cases k with
  | true => exact begins_list l items
  | false => exact begins_tuple l items
theorem itk_0 {k : Bool} {h : Heap} {it a : Addr} (e : h.get? it = some (objK k a)) : ItK k h it a 0 := by
  cases k with
  | true => exact ⟨_, e, rfl, rfl⟩
  | false => exact ⟨_, e, rfl, rfl⟩
theorem dp_seq {k : Bool} {K : PySem.W.Frag} {G : Hp} {v : V} {ds : List Dt} (h : Dp K G v (seqD k ds)) : ∃ a xs, v = .ref a ∧ SqK k K G a xs ∧ DpAll K G xs ds := by
  cases k with
  | true =>
    cases h with
    | lst h hs => exact ⟨_, _, rfl, h, hs⟩
  | false =>
    cases h with
    | tup h hs => exact ⟨_, _, rfl, h, hs⟩
/-- zip of three -/
def Itz3 (k1 k2 k3 : Bool) (K : PySem.W.Frag) (a b c : Addr) : It :=
  ⟨fun i H => ∃ xs ys zs : List V, SqK k1 K H a xs ∧ SqK k2 K H b ys ∧ SqK k3 K H c zs ∧ i < xs.length ∧ i < ys.length ∧ i < zs.length,
   fun i H v H' => ∃ T x y z, v = .ref T ∧ H T = none ∧ H' = upd H T (.tup [x, y, z]) ∧ (∀ xs, SqK k1 K H a xs → xs[i]? = some x) ∧ (∀ ys, SqK k2 K H b ys → ys[i]? = some y) ∧ ∀ zs, SqK k3 K H c zs → zs[i]? = some z,
   fun i H => ∃ xs ys zs : List V, SqK k1 K H a xs ∧ SqK k2 K H b ys ∧ SqK k3 K H c zs ∧ xs.length = i ∧ ys.length = i ∧ zs.length = i⟩
structure Ap3 (z TI TO i1 i2 i3 a b c : Addr) : Prop where
  s : ∀ x ∈ [z, TI, TO, i1, i2, i3], x ≠ a ∧ x ≠ b ∧ x ≠ c
  z1 : TI ≠ z ∧ TO ≠ z ∧ TI ≠ TO
  z2 : TI ≠ i1 ∧ TI ≠ i2 ∧ TI ≠ i3
  z3 : z ≠ i1 ∧ z ≠ i2 ∧ z ≠ i3
  z4 : TO ≠ i1 ∧ TO ≠ i2 ∧ TO ≠ i3
  z5 : i1 ≠ i2 ∧ i1 ≠ i3 ∧ i2 ≠ i3
theorem Ap3.sep {z TI TO i1 i2 i3 a b c : Addr} (D : Ap3 z TI TO i1 i2 i3 a b c) : ZipSep3 z TI TO i1 i2 i3 [i1, a] [i2, b] [i3, c] := by
  obtain ⟨s, ⟨h1, h2, h3⟩, ⟨h4, h5, h6⟩, ⟨h7, h8, h9⟩, ⟨k1, k2, k3⟩, ⟨k4, k5, k6⟩⟩ := D
  have sz := s z (by simp)
  have sT := s TO (by simp)
  have s1 := s i1 (by simp)
  have s2 := s i2 (by simp)
  have s3 := s i3 (by simp)
  constructor <;> first | assumption | simp [*] | skip
  all_goals simp_all [Ne.symm k4, Ne.symm k5, Ne.symm k6]
theorem turn_zip3 {k1 k2 k3 : Bool} {P : Program} {w : World} {K : PySem.W.Frag} {elts : List Expr} {kk : Nat} {tpos : Pos} {a b c z TI TO i1 i2 i3 : Addr} (D : Ap3 z TI TO i1 i2 i3 a b c) :
    Turn P w K (.Tuple elts kk tpos) (Itz3 k1 k2 k3 K a b c) [z, TI, TO, i1, i2, i3] z (fun i h => IsZip h z TI TO .none ∧ IsTupOf3 h TI (.ref i1) (.ref i2) (.ref i3) ∧ (∃ x y u, IsTupOf3 h TO x y u) ∧ ItK k1 h i1 a i ∧ ItK k2 h i2 b i ∧ ItK k3 h i3 c i) where
  mem := by simp
  obj := fun i h st d hd => by
    obtain ⟨hz, hI, ⟨x, y, u, hO⟩, h1, h2, h3⟩ := st
    have e' : d = z ∨ d = TI ∨ d = TO ∨ d = i1 ∨ d = i2 ∨ d = i3 := by simpa using hd
    rcases e' with q | q | q | q | q | q <;> rw [q]
    · exact ⟨_, hz, fun v q => nomatch q⟩
    · exact ⟨_, hI, fun v q => nomatch q⟩
    · exact ⟨_, hO, fun v q => nomatch q⟩
    · exact itk_obj h1
    · exact itk_obj h2
    · exact itk_obj h3
  keep := fun i h h' st k => by
    obtain ⟨hz, hI, ⟨x, y, u, hO⟩, h1, h2, h3⟩ := st
    exact ⟨k z (by simp) _ hz, k TI (by simp) _ hI, ⟨x, y, u, k TO (by simp) _ hO⟩, itk_at h1 fun o q => k i1 (by simp) o q, itk_at h2 fun o q => k i2 (by simp) o q, itk_at h3 fun o q => k i3 (by simp) o q⟩
  item := by
    intro X hP hw hK hc i pins s σ H E I hf st hg
    subst hP hw hK
    obtain ⟨hz, hI, ⟨x0, y0, u0, hO⟩, h1, h2, h3⟩ := st
    obtain ⟨xs, ys, zs, qx, qy, qz, lx, ly, lz⟩ := hg
    obtain ⟨t1, r1, p1, _⟩ := seqk_of I qx
    obtain ⟨t2, r2, p2, _⟩ := seqk_of I qy
    obtain ⟨t3, r3, p3, _⟩ := seqk_of I qz
    have S := D.sep
    have hh : X.A.in1.handled = none := I.ok.hd hc
    have m1 := D.s i1 (by simp)
    have m2 := D.s i2 (by simp)
    have m3 := D.s i3 (by simp)
    have D1 := draws_k (k := k1) (prog := X.prog) (w := X.w) hh i1 a m1.1.symm t1.toArray
    have D2 := draws_k (k := k2) (prog := X.prog) (w := X.w) hh i2 b m2.2.1.symm t2.toArray
    have D3 := draws_k (k := k3) (prog := X.prog) (w := X.w) hh i3 c m3.2.2.symm t3.toArray
    have e1 := r1.length
    have e2 := r2.length
    have e3 := r3.length
    have hzl : z < s.heap.objs.size := Heap.lt_size hz
    refine wpAny_pyNext_zipD3_item S D1 D2 D3 hz hI hO ⟨h1, p1⟩ ⟨h2, p2⟩ ⟨h3, p3⟩ (by simp; omega) (by simp; omega) (by simp; omega) fun x1 x2 x3 h' tk y1 y2 y3 hz' hO' n1 n2 n3 hT hsz hk => ?_
    refine ⟨_, rfl, wpAny_letOwnedTupleGo_zip (s := { s with heap := h', toks := tk }) hz' fun h'' z'' sb => ?_⟩
    have hT2 : h''.get? s.heap.objs.size = some { cls := .type "tuple", data := .seq #[x1, x2, x3] } := (sb.2 _ (Nat.ne_of_gt hzl)).trans hT
    have g1 : xs[i]? = some xs[i] := List.getElem?_eq_getElem lx
    have g2 : ys[i]? = some ys[i] := List.getElem?_eq_getElem ly
    have g3 : zs[i]? = some zs[i] := List.getElem?_eq_getElem lz
    obtain ⟨u1, f1, w1⟩ := r1.get g1
    obtain ⟨u2, f2, w2⟩ := r2.get g2
    obtain ⟨u3, f3, w3⟩ := r3.get g3
    have c1 : u1 = x1 := by have y1 : t1[i]? = some x1 := by simpa using y1
                            exact Option.some.inj (f1.symm.trans y1)
    have c2 : u2 = x2 := by have y2 : t2[i]? = some x2 := by simpa using y2
                            exact Option.some.inj (f2.symm.trans y2)
    have c3 : u3 = x3 := by have y3 : t3[i]? = some x3 := by simpa using y3
                            exact Option.some.inj (f3.symm.trans y3)
    subst c1 c2 c3
    have new : ObjOk X.prog X.w (upd H s.heap.objs.size (.tup [xs[i], ys[i], zs[i]])) h'' s.heap.objs.size (.tup [xs[i], ys[i], zs[i]]) :=
      ⟨by show 3 ≤ sizeLine; decide, [u1, u2, u3], .cons w1 (.cons w2 (.cons w3 .nil)), ⟨_, hT2, rfl, _, rfl⟩⟩
    have I1 : L2.Inv X pins σ (upd H s.heap.objs.size (.tup [xs[i], ys[i], zs[i]])) { s with heap := h'', toks := tk } :=
      I.turnedNew (t' := tk) (ch := [z, TI, TO, i1, i2, i3]) (fun d o hb q => (sb.2 d (fun q' => hb (by simp [q']))).trans (hk d o (fun q' => hb (by simp [q'])) (fun q' => hb (by simp [q'])) (fun q' => hb (by simp [q'])) (fun q' => hb (by simp [q'])) (fun q' => hb (by simp [q'])) q)) hf (Nat.le_refl _) new
    refine ⟨.ref s.heap.objs.size, _, I1, rfl, ⟨_, xs[i], ys[i], zs[i], rfl, I.hok.fresh (Nat.le_refl _), rfl, fun l hl => by rw [sqk_inj I hl qx]; exact g1, fun l hl => by rw [sqk_inj I hl qy]; exact g2, fun l hl => by rw [sqk_inj I hl qz]; exact g3⟩, ⟨z'', ?_, ⟨u1, u2, u3, ?_⟩, ?_, ?_, ?_⟩, fun d hd => ?_⟩
    · exact (sb.2 _ D.z1.1).trans (hk _ _ D.z1.1 D.z1.2.2 D.z2.1 D.z2.2.1 D.z2.2.2 hI)
    · exact (sb.2 _ D.z1.2.1).trans hO'
    · exact itk_at n1.1 fun o q => (sb.2 _ D.z3.1.symm).trans q
    · exact itk_at n2.1 fun o q => (sb.2 _ D.z3.2.1.symm).trans q
    · exact itk_at n3.1 fun o q => (sb.2 _ D.z3.2.2.symm).trans q
    · have hlt : d < s.heap.objs.size := by
        have e' : d = z ∨ d = TI ∨ d = TO ∨ d = i1 ∨ d = i2 ∨ d = i3 := by simpa using hd
        rcases e' with q | q | q | q | q | q <;> rw [q]
        · exact hzl
        · exact Heap.lt_size hI
        · exact Heap.lt_size hO
        · obtain ⟨_, k, _⟩ := itk_obj h1; exact Heap.lt_size k
        · obtain ⟨_, k, _⟩ := itk_obj h2; exact Heap.lt_size k
        · obtain ⟨_, k, _⟩ := itk_obj h3; exact Heap.lt_size k
      rw [upd_ne (Nat.ne_of_lt hlt)]
      exact (hf d hd).1
  done := by
    intro X hP hw hK hc i pins s σ H E I hf st hg
    subst hP hw hK
    obtain ⟨hz, hI, ⟨x0, y0, u0, hO⟩, h1, h2, h3⟩ := st
    obtain ⟨xs, ys, zs, qx, qy, qz, lx, ly, lz⟩ := hg
    obtain ⟨t1, r1, p1, _⟩ := seqk_of I qx
    obtain ⟨t2, r2, p2, _⟩ := seqk_of I qy
    obtain ⟨t3, r3, p3, _⟩ := seqk_of I qz
    have hh : X.A.in1.handled = none := I.ok.hd hc
    have m1 := D.s i1 (by simp)
    have m2 := D.s i2 (by simp)
    have m3 := D.s i3 (by simp)
    have D1 := draws_k (k := k1) (prog := X.prog) (w := X.w) hh i1 a m1.1.symm t1.toArray
    have D2 := draws_k (k := k2) (prog := X.prog) (w := X.w) hh i2 b m2.2.1.symm t2.toArray
    have D3 := draws_k (k := k3) (prog := X.prog) (w := X.w) hh i3 c m3.2.2.symm t3.toArray
    have e1 := r1.length
    have e2 := r2.length
    have e3 := r3.length
    refine wpAny_pyNext_zipD3_end D.sep D1 D2 D3 hz hI hO ⟨h1, p1⟩ ⟨h2, p2⟩ ⟨h3, p3⟩ (by simp; omega) (by simp; omega) (by simp; omega) (.inl (by simp; omega)) fun h' tk hk => ⟨rfl, ?_⟩
    exact I.turnedL (t' := tk) (ch := [z, TI, TO, i1, i2, i3]) (fun d o hb q => hk d o (fun q' => hb (by simp [q'])) (fun q' => hb (by simp [q'])) (fun q' => hb (by simp [q'])) (fun q' => hb (by simp [q'])) (fun q' => hb (by simp [q'])) q) hf
  self := fun A i s Q E st h => wpAny_pyIter_zip st.1 h
def iZip3 (k1 k2 k3 : Bool) (K : PySem.W.Frag) (ta : TA) : TI := fun σ H R => ta σ H fun vs H1 => ∃ a b c xs ys zs, vs = [.ref a, .ref b, .ref c] ∧ SqK k1 K H1 a xs ∧ SqK k2 K H1 b ys ∧ SqK k3 K H1 c zs ∧ R (Itz3 k1 k2 k3 K a b c) H1
theorem pi_zip3 {k1 k2 k3 : Bool} {X : Cx} {e e2 e3 : Expr} {ta : TA} {p pos tpos : Pos} {elts : List Expr} {kk : Nat} (hg : Gl X "zip") (hm : X.mg "zip" = none) (ha : PA X [e, e2, e3] ta)
    (hs : starEach [e, e2, e3] X.env = (false, eval e X.env) :: starEach [e2, e3] X.env := by rfl) (hpl : (backTo pos (starEach [e2, e3] X.env)).any (·.1) = false := by rfl) :
    PI X (.Tuple elts kk tpos) (.Call (.Name "zip" p) [e, e2, e3] [] pos) (iZip3 k1 k2 k3 X.K ta) := by
  refine ⟨fun pins s σ H R I h => Call_ (ld_blt I hg hm PyProof.Rows.boot_zip (PyProof.Rows.callWith_type1 (thn (ha.run pos pins s σ H _ I h) fun us s1 ⟨vs, H1, I1, r1, q1⟩ => ?_) hs hpl))⟩
  obtain ⟨a, b, c, xs, ys, zs, rfl, qx, qy, qz, q⟩ := q1
  cases r1 with
  | cons r rr =>
    cases rr with
    | cons r' rr =>
      cases rr with
      | cons r'' rr =>
        cases rr
        cases r
        cases r'
        cases r''
        obtain ⟨t1, _, p1, la⟩ := seqk_of I1 qx
        obtain ⟨t2, _, p2, lb⟩ := seqk_of I1 qy
        obtain ⟨t3, _, p3, lc⟩ := seqk_of I1 qz
        refine zip_begins3 (begins_k (k := k1) a t1.toArray) (begins_k (k := k2) b t2.toArray) (begins_k (k := k3) c t3.toArray) p1 p2 p3 fun h' hz hI hO g1 g2 g3 hsz hk => wpAny_pyIter_zip hz ?_
        have I2 : L2.Inv X pins σ H1 { s1 with heap := h' } := I1.kept (t' := s1.toks) hk
        generalize hn : s1.heap.objs.size = n at la lb lc hz hI hO g1 g2 g3 hsz ⊢
        refine ⟨n + 5, [n + 5, n + 3, n + 4, n, n + 1, n + 2], _, _, H1, rfl, I2, turn_zip3 (k1 := k1) (k2 := k2) (k3 := k3) (a := a) (b := b) (c := c) ⟨?_, ?_, ?_, ?_, ?_, ?_⟩, ⟨hz, hI, ⟨_, _, _, hO⟩, itk_0 g1, itk_0 g2, itk_0 g3⟩, fun d hd => ?_, q⟩
        · intro x hx
          have hx : x = n + 5 ∨ x = n + 3 ∨ x = n + 4 ∨ x = n ∨ x = n + 1 ∨ x = n + 2 := by simpa using hx
          have hle : n ≤ x := by rcases hx with z | z | z | z | z | z <;> rw [z] <;> first | exact Nat.le_refl _ | exact Nat.le_add_right _ _
          exact ⟨Nat.ne_of_gt (Nat.lt_of_lt_of_le la hle), Nat.ne_of_gt (Nat.lt_of_lt_of_le lb hle), Nat.ne_of_gt (Nat.lt_of_lt_of_le lc hle)⟩
        · exact ⟨Nat.ne_of_lt (by omega), Nat.ne_of_lt (by omega), Nat.ne_of_lt (by omega)⟩
        · exact ⟨Nat.ne_of_gt (by omega), Nat.ne_of_gt (by omega), Nat.ne_of_gt (by omega)⟩
        · exact ⟨Nat.ne_of_gt (by omega), Nat.ne_of_gt (by omega), Nat.ne_of_gt (by omega)⟩
        · exact ⟨Nat.ne_of_gt (by omega), Nat.ne_of_gt (by omega), Nat.ne_of_gt (by omega)⟩
        · exact ⟨Nat.ne_of_lt (by omega), Nat.ne_of_lt (by omega), Nat.ne_of_lt (by omega)⟩
        · have hle : n ≤ d := by
            have hd : d = n + 5 ∨ d = n + 3 ∨ d = n + 4 ∨ d = n ∨ d = n + 1 ∨ d = n + 2 := by simpa using hd
            rcases hd with z | z | z | z | z | z <;> rw [z] <;> first | exact Nat.le_refl _ | exact Nat.le_add_right _ _
          rw [← hn] at hle
          exact I1.fpOk hle (I1.hok.fresh hle)
section
variable {X : Cx} {env : LE} {μ μ1 : MU} {a b c tg : Expr} {p pos tpos : Pos} {elts : List Expr} {kk : Nat}
/-- zip(t, u) of two tuples of one length -/
theorem it_zip2 {ds es : List Dt} (hl : ds.length = es.length) (h : EvA X [a, b] env μ μ1 [.d (.tuple ds), .d (.tuple es)]) (hg : Gl X "zip") (hm : X.mg "zip" = none)
    (hs : starEach [a, b] X.env = (false, eval a X.env) :: starEach [b] X.env := by rfl) (hpl : (backTo pos (starEach [b] X.env)).any (·.1) = false := by rfl) : Itb X (.Tuple elts kk tpos) (.Call (.Name "zip" p) [a, b] [] pos) env μ μ1 ((ds.zip es).map fun q => .tuple [q.1, q.2]) := .mk fun σ G H A E S R q pins s I =>
  (RZ.pi_zipA hg hm pA hs hpl).run pins s σ H R I (h.run σ G H A E S _ fun vs G1 H1 A1 e1 m1 S1 r1 => by
    obtain ⟨v, w, rfl, r2, r3⟩ := Rp.two r1
    cases r2 with
    | d r2 =>
      cases r3 with
      | d r3 =>
        cases r2 with
        | @tup pa xs _ ha da =>
          cases r3 with
          | @tup pb ys _ hb db =>
            have l1 := dpa_len da
            have l2 := dpa_len db
            refine ⟨pa, pb, xs, ys, rfl, .inr ⟨sqt_mono S1.ex ha, sqt_mono S1.ex hb, q _ G1 H1 A1 e1 m1 S1 ⟨fun H => Same G1 H, fun i H v H' => i < ds.length ∧ (RZ.ItzT X.K pa pb).yld i H v H' ∧ Same G1 H, ⟨?_, ?_, ?_⟩, fun H z => z, ?_⟩⟩⟩
            · intro i H hi hS
              simp at hi
              exact ⟨xs, ys, xs[i]'(by omega), ys[i]'(by omega), sqt_mono hS ha, sqt_mono hS hb, List.getElem?_eq_getElem _, List.getElem?_eq_getElem _⟩
            · intro H hS
              refine ⟨xs, ys, sqt_mono hS ha, sqt_mono hS hb, .inl ?_⟩
              simp; omega
            · intro i H v H' hi hS y
              simp at hi
              exact ⟨by omega, y, hS⟩
            · rintro i H v H' d ⟨hi, ⟨T, x, y, rfl, hT, rfl, f1, f2⟩, hS⟩ hd
              rw [List.getElem?_map, (List.getElem?_zip_eq_some (l₁ := ds) (l₂ := es) (i := i) (z := (ds[i], es[i]'(by omega)))).mpr ⟨List.getElem?_eq_getElem _, List.getElem?_eq_getElem _⟩] at hd
              have hd := Option.some.inj hd
              subst hd
              obtain ⟨v1, k1, k2⟩ := dpa_get da (List.getElem?_eq_getElem hi)
              obtain ⟨v2, k3, k4⟩ := dpa_get db (List.getElem?_eq_getElem (show i < es.length by omega))
              have z1 := Option.some.inj ((f1 xs (sqt_mono hS ha)).symm.trans k1)
              have z2 := Option.some.inj ((f2 ys (sqt_mono hS hb)).symm.trans k3)
              subst z1 z2
              exact .inr ⟨T, [x, y], _, rfl, hT, rfl, .cons k2 (.cons k4 .nil), rfl⟩)
def zip3D : List Dt → List Dt → List Dt → List Dt
  | x :: xs, y :: ys, z :: zs => .tuple [x, y, z] :: zip3D xs ys zs
  | _, _, _ => []
theorem zip3_len : ∀ {xs ys zs : List Dt}, xs.length = ys.length → xs.length = zs.length → (zip3D xs ys zs).length = xs.length
  | [], _, _, _, _ => by simp [zip3D]
  | x :: xs, y :: ys, z :: zs, h1, h2 => by
    simp only [zip3D, List.length_cons] at *
    rw [zip3_len (by omega) (by omega)]
  | x :: xs, [], _, h1, _ => by simp at h1
  | x :: xs, y :: ys, [], _, h2 => by simp at h2
theorem zip3_get : ∀ {xs ys zs : List Dt} {i : Nat} {d : Dt}, (zip3D xs ys zs)[i]? = some d → ∃ x y z, xs[i]? = some x ∧ ys[i]? = some y ∧ zs[i]? = some z ∧ d = .tuple [x, y, z]
  | x :: xs, y :: ys, z :: zs, 0, d, h => ⟨x, y, z, rfl, rfl, rfl, (Option.some.inj h).symm⟩
  | x :: xs, y :: ys, z :: zs, i + 1, d, h => by
    have h : (zip3D xs ys zs)[i]? = some d := h
    obtain ⟨a, b, c, h1, h2, h3, h4⟩ := zip3_get h
    exact ⟨a, b, c, h1, h2, h3, h4⟩
  | [], _, _, i, d, h => by simp [zip3D] at h
  | x :: xs, [], _, i, d, h => by simp [zip3D] at h
  | x :: xs, y :: ys, [], i, d, h => by simp [zip3D] at h
/-- zip(t, u, v) of three tuples or lists of one length -/
theorem it_zip3 {k1 k2 k3 : Bool} {ds es fs : List Dt} (hl : ds.length = es.length) (hl2 : ds.length = fs.length) (h : EvA X [a, b, c] env μ μ1 [.d (seqD k1 ds), .d (seqD k2 es), .d (seqD k3 fs)]) (hg : Gl X "zip") (hm : X.mg "zip" = none)
    (hs : starEach [a, b, c] X.env = (false, eval a X.env) :: starEach [b, c] X.env := by rfl) (hpl : (backTo pos (starEach [b, c] X.env)).any (·.1) = false := by rfl) : Itb X (.Tuple elts kk tpos) (.Call (.Name "zip" p) [a, b, c] [] pos) env μ μ1 (zip3D ds es fs) := .mk fun σ G H A E S R q pins s I =>
  (pi_zip3 (k1 := k1) (k2 := k2) (k3 := k3) hg hm pA hs hpl).run pins s σ H R I (h.run σ G H A E S _ fun vs G1 H1 A1 e1 m1 S1 r1 => by
    cases r1 with
    | cons r2 r1 =>
      obtain ⟨v, w, rfl, r3, r4⟩ := Rp.two r1
      cases r2 with
      | d r2 => cases r3 with
        | d r3 => cases r4 with
          | d r4 =>
            obtain ⟨pa, xs, rfl, ha, da⟩ := dp_seq r2
            obtain ⟨pb, ys, rfl, hb, db⟩ := dp_seq r3
            obtain ⟨pc, zs, rfl, hc, dc⟩ := dp_seq r4
            have l1 := dpa_len da
            have l2 := dpa_len db
            have l3 := dpa_len dc
            refine ⟨pa, pb, pc, xs, ys, zs, rfl, sqk_mono S1.ex ha, sqk_mono S1.ex hb, sqk_mono S1.ex hc, q _ G1 H1 A1 e1 m1 S1 ⟨fun H => Same G1 H, fun i H v H' => (Itz3 k1 k2 k3 X.K pa pb pc).yld i H v H' ∧ Same G1 H, ⟨?_, ?_, ?_⟩, fun H z => z, ?_⟩⟩
            · intro i H hi hS
              rw [zip3_len hl hl2] at hi
              exact ⟨xs, ys, zs, sqk_mono hS ha, sqk_mono hS hb, sqk_mono hS hc, by omega, by omega, by omega⟩
            · intro H hS
              rw [zip3_len hl hl2]
              exact ⟨xs, ys, zs, sqk_mono hS ha, sqk_mono hS hb, sqk_mono hS hc, by omega, by omega, by omega⟩
            · exact fun i H v H' hi hS y => ⟨y, hS⟩
            · rintro i H v H' d ⟨⟨T, x, y, z, rfl, hT, rfl, f1, f2, f3⟩, hS⟩ hd
              obtain ⟨d1, d2, d3, g1, g2, g3, rfl⟩ := zip3_get hd
              obtain ⟨v1, k1, k2⟩ := dpa_get da g1
              obtain ⟨v2, k3, k4⟩ := dpa_get db g2
              obtain ⟨v3, k5, k6⟩ := dpa_get dc g3
              have z1 := Option.some.inj ((f1 xs (sqk_mono hS ha)).symm.trans k1)
              have z2 := Option.some.inj ((f2 ys (sqk_mono hS hb)).symm.trans k3)
              have z3 := Option.some.inj ((f3 zs (sqk_mono hS hc)).symm.trans k5)
              subst z1 z2 z3
              exact .inr ⟨T, [x, y, z], _, rfl, hT, rfl, .cons k2 (.cons k4 (.cons k6 .nil)), rfl⟩)
end
end Rw
/-! RwT: tuple * n. -/
namespace Rw
open PySem PySem.Spec PyProof.Rows L2
theorem tuple_mul1 (l : Addr) (items : Array Value) (n : Nat) (dd : Option Addr) (sl : Array (Option Value)) (u : Tok) :
    Meets (Builtin.«tuple.__mul__» ⟨[.ref l, .int 1 u], []⟩) (fun _ R s => s.heap.get? l = some { cls := .type "tuple", dict := dd, data := .seq items n, slots := sl } ∧ R (.ok (.ret (Value.ref l))) s) :=
  .of_wp fun prog w A R s h => by
    obtain ⟨hp, g, d, tk, os⟩ := s
    obtain ⟨hl, h⟩ := h
    have f1 := AutoSeq1.idx_int
    wp_walk using wpAny_loadPart' hl
    exact ⟨_, rfl, h⟩
def rRep1 (K : PySem.W.Frag) : R2 := fun x y H Q => ∃ l xs, x = .ref l ∧ y = .int 1 ∧ SqT K H l xs ∧ Q (.ref l) H
section
variable {X : Cx}
theorem op_rep1 : OpR X (binaryOp .Mult) (rRep1 X.K) := by
  intro pins s σ H x y v u Q I rx ry h
  obtain ⟨l, xs, rfl, rfl, hT, q⟩ := h
  cases rx
  obtain ⟨t, rfl⟩ := ry
  obtain ⟨its, r, ⟨⟨cls, dd, data, sl⟩, ho, hc, n, hd⟩, hs⟩ := I.tuple hT
  simp only at hc hd
  subst hc hd
  exact wpAny_binaryOp_repeat_ref (T := "tuple") (U := "int") (by decide) ⟨_, ho, rfl⟩ (fun s' => typeIs_int s' 1 t) noFill_tuple_mul F.fills_int_mul F.slot_int_rmul repeat_tuple F.slot_int_index.lookup
    (call_meets F.slot_int_rmul (typeIs_int s 1 t) F.entry_int_rmul (F.args_int_rmul_2 _ _) (int_rmul_tuple 1 t l its.toArray n dd sl) ⟨ho, rfl, ⟨_, ho, rfl⟩, call_meets F.slot_tuple_mul ⟨_, ho, rfl⟩ F.entry_tuple_mul (F.args_tuple_mul_2 _ _) (tuple_mul1 l its.toArray n dd sl t) ⟨ho, .ref l, H, I, rfl, q⟩⟩)
variable {env : LE} {μ μ1 μ2 : MU} {a b : Expr} {pos : Pos}
theorem ev_is {e : Expr} {x y : DE} (h : Ev X e env μ μ1 x) (q : x = y) : Ev X e env μ μ1 y := q ▸ h
/-- (d,) * n, n from 1 on -/
theorem ev_rep1 {d : Dt} {n : Int} (ha : Ev X a env μ μ1 (.d (.tuple [d]))) (hb : Ev X b env μ1 μ2 (.d (.int n))) (h1 : 1 ≤ n) (h2 : n ≤ 1000) : Ev X (.BinOp a .Mult b pos) env μ μ2 (.d (.tuple (List.replicate n.toNat d))) := by
  by_cases e : n = 1
  · subst e
    refine ev_op op_rep1 ha hb fun G H A v w S r1 r2 Q q => ?_
    obtain ⟨p, xs, rfl, t, dd⟩ := r1.tup S
    exact ⟨p, xs, rfl, r2.int, t, q.now S r1⟩
  · refine ev_op op_repT ha hb fun G H A v w S r1 r2 Q q => ?_
    obtain ⟨p, xs, rfl, t, dd⟩ := r1.tup S
    have hl := dpa_len dd
    refine ⟨p, n, xs, rfl, r2.int, t, fun z => by rw [z] at hl; simp at hl, by omega, h2, by rw [hl]; show 1 ≤ 1000; decide, fun p2 hp => ?_⟩
    have e2 : (List.replicate n.toNat [d]).flatten = List.replicate n.toNat d := by
      induction n.toNat with
      | zero => rfl
      | succ m ih => rw [List.replicate_succ, List.replicate_succ, List.flatten_cons, ih]; rfl
    have := dpa_rep dd n.toNat
    rw [e2] at this
    exact q.newT S hp this
end
end Rw
/-! RwF: comprehensions that change nothing; rafts, folk, places as data. -/
namespace Rw
open PySem PySem.Spec PyProof.Rows L2
section
variable {X : Cx} {env : LE} {μ μ1 : MU} {tg iter elt : Expr} {pos : Pos} {sc : Scope} {own : List (Str × Nat)}
theorem take_get {α β : Type} (f : α → β) {l : List α} {i : Nat} {a : α} (h : l[i]? = some a) : (l.take (i + 1)).map f = (l.take i).map f ++ [f a] := by
  rw [List.take_add_one, h, List.map_append]; rfl
theorem map_get {α β : Type} {f : α → β} {l : List α} {i : Nat} {d : β} (h : (l.map f)[i]? = some d) : ∃ a, l[i]? = some a ∧ d = f a := by
  rw [List.getElem?_map] at h
  cases e : l[i]? with
  | none => rw [e] at h; cases h
  | some a =>
    rw [e] at h
    exact ⟨a, rfl, (Option.some.inj h).symm⟩
/-- [f(x) for x in l] -/
theorem ev_lcm {α : Type} (l : List α) (enc out : α → Dt) (hc : X.calm = true) (hN : X.N.Nodup) (ok : BlkOk X.N X.env.scope sc own) (hi : Itb X tg iter env μ μ1 (l.map enc)) (hl : l.length ≤ 1000)
    (hs : ∀ a, a ∈ l → ∃ env' ks, (∀ k ∈ ks, k ∈ own.map (·.2)) ∧ InB X sc (fun Y => Tg Y tg (.d (enc a)) (wipeE env (own.map (·.2))) μ1 env' ks) ∧ InB X sc (fun Y => Ev Y elt env' μ1 μ1 (.d (out a))))
    (hf : ∀ x, foldedSetIterable iter X.env x = pure x := by intro _; rfl) : Ev X (.ListComp elt [⟨tg, iter, [], 0⟩] sc pos) env μ μ1 (.d (.list (l.map out))) := by
  refine ev_lc (own := own) (fun i m acc => m = μ1 ∧ acc = (l.take i).map out) hc hN ok hi ⟨rfl, rfl⟩ (fun i d m acc hd hj => ?_) (fun m acc hj => ?_) hf
  · obtain ⟨rfl, rfl⟩ := hj
    obtain ⟨a, ha, rfl⟩ := map_get hd
    obtain ⟨env', ks, h1, h2, h3⟩ := hs a (List.mem_of_getElem? ha)
    refine ⟨env', ks, true, m, h1, h2, fun s H C cl fp => ets_nil, fun _ => ⟨out a, m, h3, ?_, rfl, (take_get out ha).symm⟩, fun z => by cases z⟩
    rw [List.length_map, List.length_take]
    exact lnl (by have := lt_get ha; omega)
  · obtain ⟨rfl, rfl⟩ := hj
    rw [List.length_map]
    exact ⟨rfl, by rw [List.take_of_length_le (Nat.le_refl _)]⟩
/-- y = [f(x) for x in l] -/
theorem b1_setLcm {α : Type} (k : Nat) {nm : Str} {lp pos' : Pos} {D : DN} (l : List α) (enc out : α → Dt) (hc : X.calm = true) (hN : X.N.Nodup) (hy : X.N[k]? = some nm) (hyl : X.env.scope.names.lookup nm = some .local)
    (hsw : swapsWith (.ListComp elt [⟨tg, iter, [], 0⟩] sc lp) (some (.Name nm pos')) pos.line X.env = pure true) (ok : BlkOk X.N X.env.scope sc own) (hi : Itb X tg iter env μ μ1 (l.map enc)) (hl : l.length ≤ 1000)
    (hs : ∀ a, a ∈ l → ∃ env' ks, (∀ k ∈ ks, k ∈ own.map (·.2)) ∧ InB X sc (fun Y => Tg Y tg (.d (enc a)) (wipeE env (own.map (·.2))) μ1 env' ks) ∧ InB X sc (fun Y => Ev Y elt env' μ1 μ1 (.d (out a))))
    (hn : D.nx (env.set k (some (.d (.list (l.map out))))) μ1) (hf : ∀ x, foldedSetIterable iter X.env x = pure x := by intro _; rfl) : B1 X (.Assign [.Name nm pos'] (.ListComp elt [⟨tg, iter, [], 0⟩] sc lp) pos) env μ D := by
  refine b1_setLc (own := own) k (fun i m acc => m = μ1 ∧ acc = (l.take i).map out) hc hN hy hyl hsw ok hi ⟨rfl, rfl⟩ (fun i d m acc hd hj => ?_) (fun m acc hj => ?_) hn hf
  · obtain ⟨rfl, rfl⟩ := hj
    obtain ⟨a, ha, rfl⟩ := map_get hd
    obtain ⟨env', ks, h1, h2, h3⟩ := hs a (List.mem_of_getElem? ha)
    refine ⟨env', ks, true, m, h1, h2, fun s H C cl fp => ets_nil, fun _ => ⟨out a, m, h3, ?_, rfl, (take_get out ha).symm⟩, fun z => by cases z⟩
    rw [List.length_map, List.length_take]
    exact lnl (by have := lt_get ha; omega)
  · obtain ⟨rfl, rfl⟩ := hj
    rw [List.length_map]
    exact ⟨rfl, by rw [List.take_of_length_le (Nat.le_refl _)]⟩
end

/-! ### rafts, folk, places -/
structure Man where
  nm : Str
  hv : Int
  rc : Int
def manD (m : Man) : Dt := .tuple [.str m.nm, .int m.hv, .int m.rc]
def folkD (fs : List Man) : Dt := .tuple (fs.map manD)
def plD (ps : List Rat) : Dt := .tuple (ps.map rD)
def stD (g : Rat) (ps : List Rat) : Dt := .tuple [rD g, plD ps]
structure Raft where
  lg : Int
  hv : Int
def raftD (r : Raft) : Dt := .tuple [.int r.lg, .int r.hv]
def Raft.ok (r : Raft) : Prop := 1 ≤ r.lg ∧ r.lg ≤ 1000 ∧ 1 ≤ r.hv ∧ r.hv ≤ 1000
def Man.ok (m : Man) : Prop := 1 ≤ m.hv ∧ m.hv ≤ 200 ∧ 0 ≤ m.rc ∧ m.rc ≤ 100
def Men (fs : List Man) : Prop := fs.length ≤ 7 ∧ ∀ m ∈ fs, m.ok
/-- what they weigh -/
def wt (fs : List Man) : Int := (fs.map (·.hv)).sum
theorem wt_cons (m : Man) (fs : List Man) : wt (m :: fs) = m.hv + wt fs := by unfold wt; rw [List.map_cons, List.sum_cons]
theorem wt_bd : ∀ {fs : List Man}, (∀ m ∈ fs, m.ok) → 0 ≤ wt fs ∧ wt fs ≤ 200 * fs.length
  | [], _ => by simp [wt]
  | m :: fs, h => by
    have h1 := h m (by simp)
    have h2 := wt_bd (fs := fs) fun x hx => h x (by simp [hx])
    obtain ⟨a, b, _⟩ := h1
    rw [wt_cons, List.length_cons]
    omega
theorem Men.wt {fs : List Man} (h : Men fs) : 0 ≤ wt fs ∧ wt fs ≤ 1400 := by
  have h1 := wt_bd h.2
  have h2 := h.1
  omega
/-- the raft and all -/
def tot (r : Raft) (fs : List Man) : Int := r.hv + wt fs
theorem tot_bd {r : Raft} {fs : List Man} (hr : r.ok) (h : Men fs) : 1 ≤ tot r fs ∧ tot r fs ≤ 2400 := by
  have h1 := h.wt
  obtain ⟨_, _, h3, h4⟩ := hr
  unfold tot; omega
/-- the sum of weights times places -/
def mom : List Man → List Rat → Rat
  | m :: fs, p :: ps => p * (m.hv : Rat) + mom fs ps
  | _, _ => 0
/-- how far the raft is driven from where all stand at the front -/
def drv (r : Raft) (fs : List Man) (ps : List Rat) : Rat := mom fs ps / (tot r fs : Rat)
def front (r : Raft) (fs : List Man) (g : Rat) (ps : List Rat) : Rat := g + drv r fs ps
end Rw
namespace Rw
open PySem L2
theorem mom_nil (ps : List Rat) : mom [] ps = 0 := by cases ps <;> rfl
theorem mom_take : ∀ {fs : List Man} {ps : List Rat} {i : Nat} {m : Man} {p : Rat}, fs[i]? = some m → ps[i]? = some p → mom (fs.take (i + 1)) (ps.take (i + 1)) = mom (fs.take i) (ps.take i) + p * (m.hv : Rat)
  | m :: fs, p :: ps, 0, _, _, h1, h2 => by
    have h1 := Option.some.inj h1
    have h2 := Option.some.inj h2
    subst h1 h2
    simp [mom, mom_nil, Rat.add_zero, Rat.zero_add]
  | m :: fs, p :: ps, i + 1, m', p', h1, h2 => by
    have ih := mom_take (fs := fs) (ps := ps) (i := i) h1 h2
    simp only [List.take_succ_cons, mom]
    rw [ih, Rat.add_assoc]
  | [], _, i, _, _, h1, _ => by simp at h1
  | m :: fs, [], i, _, _, _, h2 => by simp at h2
theorem sz_zero {n : Nat} (h : 0 < n) : Sz n 0 := ⟨by show (0 : Int).natAbs < 2 ^ n; exact Nat.pow_pos (by omega), by show 1 < 2 ^ n; exact Nat.one_lt_two_pow (by omega)⟩
theorem pw8 {k : Int} (h1 : 0 ≤ k) (h2 : k ≤ 200) : k.natAbs < 2 ^ 8 := by omega
/-- sizes of the sums -/
theorem mom_sz {n : Nat} : ∀ {fs : List Man} {ps : List Rat}, (∀ m ∈ fs, m.ok) → (∀ p ∈ ps, Sz n p) → Sz ((n + 9) * fs.length + 1) (mom fs ps)
  | [], ps, _, _ => by rw [mom_nil]; exact sz_zero (by simp)
  | m :: fs, [], _, _ => by exact sz_zero (by simp)
  | m :: fs, p :: ps, h1, h2 => by
    have ih := mom_sz (n := n) (fs := fs) (ps := ps) (fun x hx => h1 x (by simp [hx])) (fun x hx => h2 x (by simp [hx]))
    obtain ⟨a, b, _⟩ := h1 m (by simp)
    have hp := (h2 p (by simp)).mul (Sz.int (n := 8) (pw8 (by omega) b) (by omega))
    refine (hp.add ih).mono ?_
    rw [List.length_cons, Nat.mul_succ]; omega
theorem Sz.inv {n : Nat} {w : Int} (h0 : 0 < w) (h : w.natAbs < 2 ^ n) (hn : 0 < n) : Sz n ((w : Rat)⁻¹) := by
  refine ⟨?_, ?_⟩
  · rw [Rat.num_inv, Rat.num_intCast, Rat.den_intCast, Int.sign_eq_one_of_pos h0]
    show (1 * ((1 : Nat) : Int)).natAbs < 2 ^ n
    exact Nat.one_lt_two_pow (by omega)
  · rw [Rat.den_inv, Rat.num_intCast, if_neg (by omega)]; exact h
theorem Sz.div {n m : Nat} {x : Rat} {w : Int} (hx : Sz n x) (h0 : 0 < w) (h : w.natAbs < 2 ^ m) (hm : 0 < m) : Sz (n + m) (x / (w : Rat)) := by
  rw [Rat.div_def]; exact hx.mul (Sz.inv h0 h hm)
theorem drv_sz {n : Nat} {r : Raft} {fs : List Man} {ps : List Rat} (hr : r.ok) (h : Men fs) (hp : ∀ p ∈ ps, Sz n p) : Sz ((n + 9) * 7 + 13) (drv r fs ps) := by
  have ht := tot_bd hr h
  have h1 := mom_sz (n := n) h.2 hp
  refine ((h1.div (m := 12) (by omega) (by omega) (by omega)).mono ?_ : Sz _ (mom fs ps / (tot r fs : Rat)))
  have := Nat.mul_le_mul_left (n + 9) h.1
  omega
theorem front_sz {n k : Nat} {r : Raft} {fs : List Man} {g : Rat} {ps : List Rat} (hr : r.ok) (h : Men fs) (hg : Sz k g) (hp : ∀ p ∈ ps, Sz n p) : Sz (k + ((n + 9) * 7 + 13) + 1) (front r fs g ps) := hg.add (drv_sz hr h hp)
end Rw
namespace Rw
open PySem L2
/-- a module's constant -/
def HasC (K : PySem.W.Frag) (mg : Str → Option Value) (x : Str) (d : Dt) : Prop := ∃ v u, mg x = some u ∧ RelV v u ∧ ∀ G, Dp K G v d
theorem ev_con {X : Cx} {env : LE} {μ : MU} {nm : Str} {d : Dt} {pos : Pos} (h : HasC X.K X.mg nm d) (hg : Gl X nm) (hd : (nm == ("__debug__" : Str)) = false := by decide) : Ev X (.Name nm pos) env μ μ (.d d) := by
  obtain ⟨v, u, h1, h2, h3⟩ := h
  exact ev_glob hg h1 h2 h3 hd
/-- what program functions of rafts, folk, places are asked with -/
structure Good (r : Raft) (fs : List Man) (ps : List Rat) : Prop where
  rf : r.ok
  mn : Men fs
  ln : fs.length = ps.length
  sz : ∀ p ∈ ps, Sz 240 p
theorem zip_enc (fs : List Man) (ps : List Rat) : (List.zip (fs.map manD) (ps.map rD)).map (fun q => PyData.tuple [q.1, q.2]) = (fs.zip ps).map (fun q => PyData.tuple [manD q.1, rD q.2]) := by
  rw [List.zip_map, List.map_map]; rfl
end Rw
/-! RwD: what is drawn. -/
namespace Rw
open PySem L2
def pick2 (a b i : Int) : Int := if i = 0 then a else b
def pick3 (a b c i : Int) : Int := if i = 0 then a else if i = 1 then b else c
theorem at_pick2 {a b i : Int} (h0 : 0 ≤ i) (h : i < 2) : atI [PyData.int a, .int b] i = some (.int (pick2 a b i)) := by
  have : i = 0 ∨ i = 1 := by omega
  rcases this with rfl | rfl <;> rfl
theorem at_pick3 {a b c i : Int} (h0 : 0 ≤ i) (h : i < 3) : atI [PyData.int a, .int b, .int c] i = some (.int (pick3 a b c i)) := by
  have : i = 0 ∨ i = 1 ∨ i = 2 := by omega
  rcases this with rfl | rfl | rfl <;> rfl
theorem pick3_bd {a b c i lo hi : Int} (ha : lo ≤ a ∧ a ≤ hi) (hb : lo ≤ b ∧ b ≤ hi) (hc : lo ≤ c ∧ c ≤ hi) : lo ≤ pick3 a b c i ∧ pick3 a b c i ≤ hi := by
  unfold pick3; split
  · exact ha
  · split
    · exact hb
    · exact hc
theorem pick2_bd {a b i lo hi : Int} (ha : lo ≤ a ∧ a ≤ hi) (hb : lo ≤ b ∧ b ≤ hi) : lo ≤ pick2 a b i ∧ pick2 a b i ≤ hi := by
  unfold pick2; split
  · exact ha
  · exact hb
/-! the bag of a cell -/
def cellOf (ns : List Int) (k : Nat) : Int := match ns[k]? with
  | some n => if n < 0 then -n else n
  | none => 0
def bagOf (ns : List Int) (k : Nat) : Bag := if cellOf ns k < 10 ^ 18 then ⟨0, 1 + (cellOf ns k * 7919 + 104729 * (k : Int)) % 2147483646⟩ else ⟨cellOf ns k, 1 + (cellOf ns k + (k : Int)) % 2147483646⟩
theorem cell_nn (ns : List Int) (k : Nat) : 0 ≤ cellOf ns k := by
  unfold cellOf; split
  · split <;> omega
  · omega
theorem bag_ok (ns : List Int) (k : Nat) : (bagOf ns k).ok := by
  have h := cell_nn ns k
  unfold bagOf
  have h1 : ∀ x : Int, 0 ≤ x % 2147483646 ∧ x % 2147483646 < 2147483646 := fun x => ⟨Int.emod_nonneg _ (by omega), Int.emod_lt_of_pos _ (by omega)⟩
  split
  · exact ⟨Int.le_refl 0, by have := h1 (cellOf ns k * 7919 + 104729 * (k : Int)); show 0 ≤ 1 + _; omega, by have := h1 (cellOf ns k * 7919 + 104729 * (k : Int)); show 1 + _ < _; omega⟩
  · exact ⟨h, by have := h1 (cellOf ns k + (k : Int)); show 0 ≤ 1 + _; omega, by have := h1 (cellOf ns k + (k : Int)); show 1 + _ < _; omega⟩
/-! a raft -/
def raftW (s : Bag) : Int := pick3 12 100 1000 (takeV s 3)
def raftU (s : Bag) : Int := pick3 30 300 1000 (takeV (takeB (takeB s 3) (raftW s)) 3)
def raftV (s : Bag) : Raft := ⟨1 + takeV (takeB s 3) (raftW s), 1 + takeV (takeB (takeB (takeB s 3) (raftW s)) 3) (raftU s)⟩
def raftB (s : Bag) : Bag := takeB (takeB (takeB (takeB s 3) (raftW s)) 3) (raftU s)
theorem raftW_bd (s : Bag) : 12 ≤ raftW s ∧ raftW s ≤ 1000 := pick3_bd (by omega) (by omega) (by omega)
theorem raftU_bd (s : Bag) : 30 ≤ raftU s ∧ raftU s ≤ 1000 := pick3_bd (by omega) (by omega) (by omega)
theorem raft_ok (s : Bag) : (raftV s).ok := by
  have h1 := raftW_bd s
  have h2 := raftU_bd s
  have a1 := take_lo (takeB s 3) (n := raftW s) (by omega)
  have a2 := take_hi (takeB s 3) (n := raftW s) (by omega)
  have b1 := take_lo (takeB (takeB (takeB s 3) (raftW s)) 3) (n := raftU s) (by omega)
  have b2 := take_hi (takeB (takeB (takeB s 3) (raftW s)) 3) (n := raftU s) (by omega)
  refine ⟨?_, ?_, ?_, ?_⟩
  · show 1 ≤ 1 + takeV (takeB s 3) (raftW s); omega
  · show 1 + takeV (takeB s 3) (raftW s) ≤ 1000; omega
  · show 1 ≤ 1 + takeV (takeB (takeB (takeB s 3) (raftW s)) 3) (raftU s); omega
  · show 1 + takeV (takeB (takeB (takeB s 3) (raftW s)) 3) (raftU s) ≤ 1000; omega
theorem raftB_ok {s : Bag} (h : s.ok) : (raftB s).ok := by
  have h1 := raftW_bd s
  have h2 := raftU_bd s
  exact take_ok (by omega) (take_ok (by omega) (take_ok (by omega) (take_ok (by omega) h)))
end Rw
namespace Rw
open PySem L2
/-- the sum of weights times how much farther back -/
def shf : List Man → List Rat → List Rat → Rat
  | m :: fs, p :: ps, q :: qs => (q - p) * (m.hv : Rat) + shf fs ps qs
  | _, _, _ => 0
theorem shf_nil (ps qs : List Rat) : shf [] ps qs = 0 := by cases ps <;> rfl
theorem shf_mom : ∀ {fs : List Man} {ps qs : List Rat}, fs.length = ps.length → fs.length = qs.length → shf fs ps qs = mom fs qs - mom fs ps
  | [], ps, qs, _, _ => by rw [shf_nil, mom_nil, mom_nil]; grind
  | m :: fs, p :: ps, q :: qs, h1, h2 => by
    simp only [shf, mom]
    rw [shf_mom (fs := fs) (ps := ps) (qs := qs) (by simpa using h1) (by simpa using h2)]
    grind
  | m :: fs, [], _, h1, _ => by simp at h1
  | m :: fs, p :: ps, [], _, h2 => by simp at h2
theorem shf_take : ∀ {fs : List Man} {ps qs : List Rat} {i : Nat} {m : Man} {p q : Rat}, fs[i]? = some m → ps[i]? = some p → qs[i]? = some q → shf (fs.take (i + 1)) (ps.take (i + 1)) (qs.take (i + 1)) = shf (fs.take i) (ps.take i) (qs.take i) + (q - p) * (m.hv : Rat)
  | m :: fs, p :: ps, q :: qs, 0, _, _, _, h1, h2, h3 => by
    have h1 := Option.some.inj h1
    have h2 := Option.some.inj h2
    have h3 := Option.some.inj h3
    subst h1 h2 h3
    simp [shf, shf_nil, Rat.add_zero, Rat.zero_add]
  | m :: fs, p :: ps, q :: qs, i + 1, m', p', q', h1, h2, h3 => by
    have ih := shf_take (fs := fs) (ps := ps) (qs := qs) (i := i) h1 h2 h3
    simp only [List.take_succ_cons, shf]
    rw [ih, Rat.add_assoc]
  | [], _, _, i, _, _, _, h1, _, _ => by simp at h1
  | m :: fs, [], _, i, _, _, _, _, h2, _ => by simp at h2
  | m :: fs, p :: ps, [], i, _, _, _, _, _, h3 => by simp at h3
theorem shf_sz {n : Nat} : ∀ {fs : List Man} {ps qs : List Rat}, (∀ m ∈ fs, m.ok) → (∀ p ∈ ps, Sz n p) → (∀ p ∈ qs, Sz n p) → Sz ((2 * n + 10) * fs.length + 1) (shf fs ps qs)
  | [], ps, qs, _, _, _ => by rw [shf_nil]; exact sz_zero (by simp)
  | m :: fs, [], _, _, _, _ => by exact sz_zero (by simp)
  | m :: fs, p :: ps, [], _, _, _ => by exact sz_zero (by simp)
  | m :: fs, p :: ps, q :: qs, h1, h2, h3 => by
    have ih := shf_sz (n := n) (fs := fs) (ps := ps) (qs := qs) (fun x hx => h1 x (by simp [hx])) (fun x hx => h2 x (by simp [hx])) (fun x hx => h3 x (by simp [hx]))
    obtain ⟨a, b, _⟩ := h1 m (by simp)
    have hp := ((h3 q (by simp)).sub (h2 p (by simp))).mul (Sz.int (n := 8) (pw8 (by omega) b) (by omega))
    refine (hp.add ih).mono ?_
    rw [List.length_cons, Nat.mul_succ]; omega
theorem zip3_enc (fs : List Man) (ps qs : List Rat) : ∀ {i : Nat} {d : Dt}, (zip3D (fs.map manD) (ps.map rD) (qs.map rD))[i]? = some d → ∃ m p q, fs[i]? = some m ∧ ps[i]? = some p ∧ qs[i]? = some q ∧ d = .tuple [manD m, rD p, rD q] := fun h => by
  obtain ⟨x, y, z, h1, h2, h3, rfl⟩ := zip3_get h
  obtain ⟨m, g1, rfl⟩ := map_get h1
  obtain ⟨p, g2, rfl⟩ := map_get h2
  obtain ⟨q, g3, rfl⟩ := map_get h3
  exact ⟨m, p, q, g1, g2, g3, rfl⟩
end Rw
namespace Rw
open PySem L2
theorem cut_to (xs : List Dt) {k : Int} (h : 0 ≤ k) : cutD xs none (some k) = xs.take k.toNat := by
  unfold cutD
  obtain ⟨n, rfl⟩ : ∃ n : Nat, k = n := ⟨k.toNat, by omega⟩
  rw [HT.sIx_none, HT.sIx_nat, List.drop_zero, Nat.sub_zero, Int.toNat_natCast]
  rcases Nat.le_total n xs.length with q | q
  · rw [Nat.min_eq_left q]
  · rw [Nat.min_eq_right q, List.take_of_length_le (Nat.le_refl _), List.take_of_length_le q]
/-! folk -/
def manW (s : Bag) : Int := pick3 5 60 200 (takeV s 3)
def manS (s : Bag) : Bag := takeB (takeB s 3) (manW s)
def manU (s : Bag) : Int := pick2 6 101 (takeV (manS s) 2)
def manV (rch : Int) (al : Bool) (nm : Str) (s : Bag) : Man := ⟨nm, 1 + takeV (takeB s 3) (manW s), if al then rch else takeV (takeB (manS s) 2) (manU s)⟩
def manB (al : Bool) (s : Bag) : Bag := if al then manS s else takeB (takeB (manS s) 2) (manU s)
theorem manW_bd (s : Bag) : 5 ≤ manW s ∧ manW s ≤ 200 := pick3_bd (by omega) (by omega) (by omega)
theorem manU_bd (s : Bag) : 6 ≤ manU s ∧ manU s ≤ 101 := pick2_bd (by omega) (by omega)
theorem manS_ok {s : Bag} (h : s.ok) : (manS s).ok := by
  have := manW_bd s
  exact take_ok (by omega) (take_ok (by omega) h)
theorem manB_ok {s : Bag} (al : Bool) (h : s.ok) : (manB al s).ok := by
  have := manU_bd s
  unfold manB
  cases al with
  | true => exact manS_ok h
  | false => exact take_ok (by omega) (take_ok (by omega) (manS_ok h))
theorem man_ok {s : Bag} {rch : Int} {al : Bool} {nm : Str} (h : 0 ≤ rch ∧ rch ≤ 100) : (manV rch al nm s).ok := by
  have h1 := manW_bd s
  have h2 := manU_bd s
  have a1 := take_lo (takeB s 3) (n := manW s) (by omega)
  have a2 := take_hi (takeB s 3) (n := manW s) (by omega)
  have b1 := take_lo (takeB (manS s) 2) (n := manU s) (by omega)
  have b2 := take_hi (takeB (manS s) 2) (n := manU s) (by omega)
  refine ⟨?_, ?_, ?_, ?_⟩
  · show 1 ≤ 1 + takeV (takeB s 3) (manW s); omega
  · show 1 + takeV (takeB s 3) (manW s) ≤ 200; omega
  · show 0 ≤ (if al = true then rch else takeV (takeB (manS s) 2) (manU s)); split <;> omega
  · show (if al = true then rch else takeV (takeB (manS s) 2) (manU s)) ≤ 100; split <;> omega
def menR (rch : Int) (al : Bool) : List Str → Bag → List Man × Bag
  | [], s => ([], s)
  | nm :: ns, s => (manV rch al nm s :: (menR rch al ns (manB al s)).1, (menR rch al ns (manB al s)).2)
theorem menR_take {rch : Int} {al : Bool} : ∀ {ns : List Str} {i : Nat} {nm : Str} {s : Bag}, ns[i]? = some nm →
    menR rch al (ns.take (i + 1)) s = ((menR rch al (ns.take i) s).1 ++ [manV rch al nm (menR rch al (ns.take i) s).2], manB al (menR rch al (ns.take i) s).2)
  | n :: ns, 0, nm, s, h => by
    have h := Option.some.inj h
    subst h
    simp [menR]
  | n :: ns, i + 1, nm, s, h => by
    have ih := menR_take (rch := rch) (al := al) (ns := ns) (i := i) (s := manB al s) h
    simp only [List.take_succ_cons, menR]
    rw [ih]
    rfl
  | [], i, nm, s, h => by simp at h
theorem menR_ok {rch : Int} {al : Bool} : ∀ {ns : List Str} {s : Bag}, s.ok → (menR rch al ns s).2.ok
  | [], s, h => h
  | n :: ns, s, h => menR_ok (ns := ns) (manB_ok al h)
theorem menR_men {rch : Int} {al : Bool} (h : 0 ≤ rch ∧ rch ≤ 100) : ∀ {ns : List Str} {s : Bag}, ∀ m ∈ (menR rch al ns s).1, m.ok
  | [], s, m, hm => by simp [menR] at hm
  | n :: ns, s, m, hm => by
    simp only [menR, List.mem_cons] at hm
    rcases hm with rfl | hm
    · exact man_ok h
    · exact menR_men h (ns := ns) m hm
theorem menR_nm {rch : Int} {al : Bool} : ∀ {ns : List Str} {s : Bag}, (menR rch al ns s).1.map (·.nm) = ns
  | [], s => rfl
  | n :: ns, s => by
    simp only [menR, List.map_cons]
    rw [menR_nm (ns := ns)]
    rfl
theorem menR_len {rch : Int} {al : Bool} (ns : List Str) (s : Bag) : (menR rch al ns s).1.length = ns.length := by
  have := congrArg List.length (menR_nm (rch := rch) (al := al) (ns := ns) (s := s))
  rw [List.length_map] at this; exact this
def allNames : List Str := ["ann", "bo", "cy", "dee", "eli", "fay", "gus"]
def folkW (s : Bag) : Int := pick2 4 101 (takeV s 2)
def folkS1 (s : Bag) : Bag := takeB s 2
def folkS2 (s : Bag) : Bag := takeB (folkS1 s) (folkW s)
def folkS3 (s : Bag) : Bag := takeB (folkS2 s) 2
def folkS4 (s : Bag) (most : Int) : Bag := takeB (folkS3 s) most
def folkR (s : Bag) : Int := takeV (folkS1 s) (folkW s)
def folkA (s : Bag) : Bool := decide (takeV (folkS2 s) 2 = 0)
def folkN (s : Bag) (most : Int) : List Str := allNames.take (1 + takeV (folkS3 s) most).toNat
def folkV (most : Int) (s : Bag) : List Man := (menR (folkR s) (folkA s) (folkN s most) (folkS4 s most)).1
def folkB (most : Int) (s : Bag) : Bag := (menR (folkR s) (folkA s) (folkN s most) (folkS4 s most)).2
theorem folkW_bd (s : Bag) : 4 ≤ folkW s ∧ folkW s ≤ 101 := pick2_bd (by omega) (by omega)
theorem folkR_bd (s : Bag) : 0 ≤ folkR s ∧ folkR s ≤ 100 := by
  have := folkW_bd s
  have h1 := take_lo (folkS1 s) (n := folkW s) (by omega)
  have h2 := take_hi (folkS1 s) (n := folkW s) (by omega)
  unfold folkR; omega
theorem folkS1_ok {s : Bag} (h : s.ok) : (folkS1 s).ok := take_ok (by omega) h
theorem folkS2_ok {s : Bag} (h : s.ok) : (folkS2 s).ok := take_ok (by have := folkW_bd s; omega) (folkS1_ok h)
theorem folkS3_ok {s : Bag} (h : s.ok) : (folkS3 s).ok := take_ok (by omega) (folkS2_ok h)
theorem folkS4_ok {s : Bag} {most : Int} (h0 : 0 < most) (h : s.ok) : (folkS4 s most).ok := take_ok h0 (folkS3_ok h)
theorem folkB_ok {s : Bag} {most : Int} (h0 : 0 < most) (h : s.ok) : (folkB most s).ok := menR_ok (folkS4_ok h0 h)
theorem folk_len {s : Bag} {most : Int} (h0 : 0 < most) (h7 : most ≤ 7) : 1 ≤ (folkV most s).length ∧ ((folkV most s).length : Int) ≤ most := by
  have h1 := take_lo (folkS3 s) h0
  have h2 := take_hi (folkS3 s) h0
  unfold folkV
  rw [menR_len]
  unfold folkN
  rw [List.length_take, show allNames.length = 7 from rfl]
  omega
theorem folk_men {s : Bag} {most : Int} (h0 : 0 < most) (h7 : most ≤ 7) : Men (folkV most s) := ⟨by have := folk_len (s := s) h0 h7; omega, menR_men (folkR_bd s)⟩
/-! places -/
def placeV (r : Raft) (s : Bag) : Rat := mkRat (r.lg * takeV s 5) 4
def plR (r : Raft) : Nat → Bag → List Rat × Bag
  | 0, s => ([], s)
  | n + 1, s => ((plR r n s).1 ++ [placeV r (plR r n s).2], takeB (plR r n s).2 5)
def plV (r : Raft) (n : Nat) (s : Bag) : List Rat := (plR r n s).1
def plB (r : Raft) (n : Nat) (s : Bag) : Bag := (plR r n s).2
theorem plB_ok {r : Raft} {s : Bag} (h : s.ok) : ∀ n, (plB r n s).ok
  | 0 => h
  | n + 1 => take_ok (by omega) (plB_ok h n)
theorem plV_len (r : Raft) (s : Bag) : ∀ n, (plV r n s).length = n
  | 0 => rfl
  | n + 1 => by
    have ih := plV_len r s n
    show ((plR r n s).1 ++ [_]).length = n + 1
    unfold plV at ih
    rw [List.length_append, ih]; rfl
structure PlOk (r : Raft) (p : Rat) : Prop where
  lo : 0 ≤ p
  hi : p ≤ (r.lg : Rat)
  sz : Sz 13 p
theorem place_ok {r : Raft} (hr : r.ok) (s : Bag) : PlOk r (placeV r s) := by
  have h1 := take_lo s (n := 5) (by omega)
  have h2 := take_hi s (n := 5) (by omega)
  obtain ⟨a, b, _⟩ := hr
  have m1 : 0 ≤ r.lg * takeV s 5 := Int.mul_nonneg (by omega) h1
  have m2 : r.lg * takeV s 5 ≤ r.lg * 4 := Int.mul_le_mul_of_nonneg_left (by omega) (by omega)
  have e : placeV r s = ((r.lg * takeV s 5 : Int) : Rat) / ((4 : Nat) : Rat) := Rat.mkRat_eq_div _ _
  refine ⟨?_, ?_, mk_sz (by omega) (by omega) (by omega)⟩
  · rw [e]
    have : (0 : Rat) ≤ ((r.lg * takeV s 5 : Int) : Rat) := Rat.intCast_nonneg.mpr m1
    grind
  · rw [e]
    have : ((r.lg * takeV s 5 : Int) : Rat) ≤ ((r.lg * 4 : Int) : Rat) := Rat.intCast_le_intCast.mpr m2
    rw [Rat.intCast_mul r.lg 4] at this
    grind
theorem plV_ok {r : Raft} (hr : r.ok) (s : Bag) : ∀ n, ∀ p ∈ plV r n s, PlOk r p
  | 0, p, h => by simp [plV, plR] at h
  | n + 1, p, h => by
    have h : p ∈ (plR r n s).1 ++ [placeV r (plR r n s).2] := h
    rcases List.mem_append.mp h with h | h
    · exact plV_ok hr s n p h
    · have h : p = placeV r (plR r n s).2 := by simpa using h
      rw [h]; exact place_ok hr _
/-! a standing -/
def stW (r : Raft) (s : Bag) : Int := pick3 4 r.lg 120 (takeV s 3)
def gpV (r : Raft) (s : Bag) : Rat := mkRat (takeV (takeB s 3) (2 * stW r s + 1)) 2
def stS (r : Raft) (s : Bag) : Bag := takeB (takeB s 3) (2 * stW r s + 1)
theorem stW_bd {r : Raft} (hr : r.ok) (s : Bag) : 1 ≤ stW r s ∧ stW r s ≤ 1000 := by
  obtain ⟨a, b, _⟩ := hr
  exact pick3_bd (by omega) ⟨a, b⟩ (by omega)
theorem stS_ok {r : Raft} (hr : r.ok) {s : Bag} (h : s.ok) : (stS r s).ok := by
  have := stW_bd hr s
  exact take_ok (by omega) (take_ok (by omega) h)
theorem gp_ok {r : Raft} (hr : r.ok) (s : Bag) : 0 ≤ gpV r s ∧ Sz 12 (gpV r s) := by
  have h := stW_bd hr s
  have h1 := take_lo (takeB s 3) (n := 2 * stW r s + 1) (by omega)
  have h2 := take_hi (takeB s 3) (n := 2 * stW r s + 1) (by omega)
  refine ⟨?_, mk_sz (by omega) (by omega) (by omega)⟩
  have e : gpV r s = ((takeV (takeB s 3) (2 * stW r s + 1) : Int) : Rat) / ((2 : Nat) : Rat) := Rat.mkRat_eq_div _ _
  rw [e]
  have : (0 : Rat) ≤ ((takeV (takeB s 3) (2 * stW r s + 1) : Int) : Rat) := Rat.intCast_nonneg.mpr h1
  grind
theorem set_app {μ : MU} {c : Nat} {x y : Option Cl} (h : c < μ.length) : (μ ++ [y]).set c x = μ.set c x ++ [y] := by
  rw [List.set_append_left _ _ h]
theorem get_app {μ : MU} {c : Nat} {x y : Option Cl} (h : μ[c]? = some x) : (μ ++ [y])[c]? = some x := by
  rw [List.getElem?_append_left (lt_get h)]; exact h
theorem get_last (μ : MU) (y : Option Cl) : (μ ++ [y])[μ.length]? = some y := by
  rw [List.getElem?_append_right (Nat.le_refl _), Nat.sub_self]; rfl
theorem set_last (μ : MU) (x y : Option Cl) : (μ ++ [y]).set μ.length x = μ ++ [x] := by
  rw [List.set_append_right _ _ (Nat.le_refl _), Nat.sub_self]; rfl
end Rw
/-! RwE: the end. -/
namespace Rw
open PySem PySem.Spec PyProof.Rows L2
/-- a def as the top has left it -/
structure DefAt (K : PySem.W.Frag) (x : Str) (st : Stmt) : Prop where
  ex : ∃ (f : Addr) (oc : Value) (od : Option Addr) (kV dc pm : Value) (an : Option Addr) (cd ct : Value) (sl : Array (Option Value)), PySem.W.nsIn K mainGlobals x = some (some (.ref f)) ∧
    K.lookup f = some ⟨oc, od, .func (PySem.W.fnOf x x (defArgs st) (defBody st) (defScope st) .none kV dc pm an cd ct), sl⟩ ∧ PySem.W.codeIn K cd x = true ∧ PySem.W.keepIn K (.ref f) = true
theorem DefAt.df {P : Program} {w : World} {K : PySem.W.Frag} {mg : Str → Option Value} {base h : Heap} {x : Str} {st : Stmt} {k : Nat} {Φ : Phi} {ps : List Str} (D : DefAt K x st) (X : K.In h) (G : h.Ns mainGlobals mg)
    (hb : ∀ (kV dc pm : Value) (an : Option Addr) (cd ct : Value) (us : List Value), us.length = ps.length → bindArgs (PySem.W.fnOf x x (defArgs st) (defBody st) (defScope st) .none kV dc pm an cd ct) ⟨us, []⟩ = pure (ps.zip us))
    (ok : ∀ f fd, Fun K x x st f fd → FnOk P w K mg base CX0 k f fd ps (SpD K Φ)) : Df P w K mg base k x Φ := by
  obtain ⟨f, oc, od, kV, dc, pm, an, cd, ct, sl, a, l, c, kp⟩ := D.ex
  have F := fun_mk (st := st) l c kp
  exact ⟨f, _, ps, ok f _ F, PySem.W.mg_of X G a, kp, F.binds hb⟩
/-- a pair of ints that the top has written -/
structure PairAt (K : PySem.W.Frag) (x : Str) (i j : Int) : Prop where
  ex : ∃ (a : Addr) (od : Option Addr) (t u : Tok) (n : Nat) (sl : Array (Option Value)), PySem.W.nsIn K mainGlobals x = some (some (.ref a)) ∧ K.lookup a = some ⟨.type "tuple", od, .seq #[.int i t, .int j u] n, sl⟩
theorem PairAt.has {K : PySem.W.Frag} {mg : Str → Option Value} {h : Heap} {x : Str} {i j : Int} (D : PairAt K x i j) (X : K.In h) (G : h.Ns mainGlobals mg) : HasC K mg x (.tuple [.int i, .int j]) := by
  obtain ⟨a, od, t, u, n, sl, h1, h2⟩ := D.ex
  exact ⟨.ref a, .ref a, PySem.W.mg_of X G h1, rfl, fun G => .tup (xs := [.int i, .int j]) (.inr ⟨_, _, n, h2, rfl, rfl, by show 2 ≤ sizeLine; decide, .cons (show RelV (.int i) (.int i t) from ⟨t, rfl⟩) (.cons (show RelV (.int j) (.int j u) from ⟨u, rfl⟩) .nil)⟩) (.cons (.int i) (.cons (.int j) .nil))⟩
def sp_law (K : PySem.W.Frag) : Sp := fun vs H Q _ => ∃ (a : Addr) (ns : List Int), vs = [.ref a] ∧ SqL K H a (ns.map V.int) ∧ ns.length ≤ 63 ∧ ∀ H', Q (.bl true) H'
theorem dpa_of_ints {K : PySem.W.Frag} {G : Hp} : ∀ ns : List Int, DpAll K G (ns.map V.int) (ns.map .int)
  | [] => .nil
  | n :: ns => .cons (.int n) (dpa_of_ints ns)
theorem law_end {P : Program} {w : World} {K : PySem.W.Frag} {mg : Str → Option Value} {base : Heap} {k : Nat} {f : Addr} {fd : FuncData} (h : FnOk P w K mg base CX0 k f fd ["script"] (SpD K (phP (fun ns : List Int => ns.length ≤ 63) (fun ns => [.d (.list (ns.map .int))]) (fun _ => .bool true)))) : FnOk P w K mg base CX0 k f fd ["script"] (sp_law K) := by
  refine h.imp fun vs H Q E hs => ?_
  obtain ⟨a, ns, rfl, hS, hl, q⟩ := hs
  refine ⟨H, [], [.d (.list (ns.map .int))], [], [], .d (.bool true), phP.mk ns hl, ⟨Same.refl H, rfl, List.nodup_nil, fun k a h => by simp at h, fun k a ds h => by simp at h⟩, .cons (.d (.lst hS (dpa_of_ints ns))) .nil, fun v G' H' A' _ _ _ r => ?_⟩
  rw [r.bl]; exact q H'
end Rw
namespace Rw
open PySem PySem.Spec PyProof.Rows L2
theorem def_at {K : PySem.W.Frag} {x : Str} {st : Stmt} {f : Addr} {oc : Value} {od : Option Addr} {kV dc pm : Value} {an : Option Addr} {cd ct : Value} {sl : Array (Option Value)} (a : PySem.W.nsIn K mainGlobals x = some (some (.ref f)))
    (l : K.lookup f = some ⟨oc, od, .func (PySem.W.fnOf x x (defArgs st) (defBody st) (defScope st) .none kV dc pm an cd ct), sl⟩) (c : PySem.W.codeIn K cd x = true) (k : PySem.W.keepIn K (.ref f) = true) : DefAt K x st := ⟨f, oc, od, kV, dc, pm, an, cd, ct, sl, a, l, c, k⟩
theorem pair_at {K : PySem.W.Frag} {x : Str} {i j : Int} {a : Addr} {od : Option Addr} {t u : Tok} {n : Nat} {sl : Array (Option Value)} (h : PySem.W.nsIn K mainGlobals x = some (some (.ref a))) (l : K.lookup a = some ⟨.type "tuple", od, .seq #[.int i t, .int j u] n, sl⟩) : PairAt K x i j := ⟨a, od, t, u, n, sl, h, l⟩
end Rw
/-! RwG: enumerate, isinstance, lists that are made to be changed, index. -/
namespace Rw
open PySem PySem.Spec PyProof.Rows L2
/-! ### enumerate of a list or a tuple -/
theorem meets_enum_k {v : Value} {o : Obj} {Hh : Heap → Prop} (B : Begins v o Hh) :
    Meets (Builtin.«enumerate.__new__» ⟨[.type "enumerate", v], []⟩) (fun _ R s => Hh s.heap ∧
      R (.ok (.ret (.ref (s.heap.push o).objs.size))) { s with heap := (s.heap.push o).push { cls := .type "enumerate", data := .fields #[.none, .bool false, .ref s.heap.objs.size, rawInt 0, .none, .none] } }) :=
  .of_wp fun prog w A R s h => by
    obtain ⟨hp, g, d, tk, os⟩ := s
    obtain ⟨h0, h⟩ := h
    have hsub := sub_enumerate
    have q1 : ∀ {A' : Around} {E : Value → Shared → Prop} {Q : Value → Shared → Prop}, Q (.ref hp.objs.size) ⟨(hp.push o), g, d, tk, os⟩ → wpAny (model prog w) A' (pyIter v) Q E ⟨hp, g, d, tk, os⟩ := fun q => B.iter prog w _ _ ⟨hp, g, d, tk, os⟩ _ h0 q
    wp_walk
    refine wpAny_stack_any fun st => wpAny_pure ?_
    split
    · rename_i c _ _ _ _ _
      cases (c == Value.type "enumerate") <;> (wp_walk using q1; exact ⟨_, rfl, h⟩)
    · wp_walk using q1
      exact ⟨_, rfl, h⟩
theorem call_enum_k {k : Bool} {prog : Program} {w : World} {A : Around} {E : Value → Shared → Prop} {s : Shared} {l : Addr} {items : Array Value} {Q : Value → Shared → Prop} (hl : SeqK k s.heap l items)
    (h : ∀ h', IsEnum h' (s.heap.objs.size + 1) s.heap.objs.size 0 .none → ItK k h' s.heap.objs.size l 0 → (∀ b o, s.heap.get? b = some o → h'.get? b = some o) → Q (.ref (s.heap.objs.size + 1)) { s with heap := h' }) : wpAny (model prog w) A (call (.type "enumerate") [.ref l]) Q E s := by
  refine callType_new F.called_enumerate (by decide) (F.typeCall_enumerate_1 _) (F.newCall_enumerate_1 _) (fun obj => F.args_object_init_2 obj _) F.entry_enumerate_new (meets_enum_k (begins_k (k := k) l items)) ⟨hl, ?_⟩
  have hz : (s.heap.push (objK k l)).objs.size = s.heap.objs.size + 1 := Heap.size_push ..
  have he : ((s.heap.push (objK k l)).push { cls := .type "enumerate", data := .fields #[.none, .bool false, .ref s.heap.objs.size, rawInt 0, .none, .none] }).get? (s.heap.push (objK k l)).objs.size = some _ := Heap.get?_push_size _ rfl
  have g1 : ((s.heap.push (objK k l)).push { cls := .type "enumerate", data := .fields #[.none, .bool false, .ref s.heap.objs.size, rawInt 0, .none, .none] }).get? s.heap.objs.size = some (objK k l) := Heap.get?_push_of_some _ (Heap.get?_push_size _ (begins_k (k := k) l items).free)
  rw [hz] at he
  show _ ∧ _
  rw [hz]
  exact ⟨⟨_, he, rfl⟩, h _ he (itk_0 g1) fun b o x => Heap.get?_push_of_some _ (Heap.get?_push_of_some _ x)⟩
def IteK (k : Bool) (K : PySem.W.Frag) (a : Addr) : It :=
  ⟨fun i H => ∃ xs : List V, SqK k K H a xs ∧ i < xs.length, fun i H v H' => ∃ T x, v = .ref T ∧ H T = none ∧ H' = upd H T (.tup [.int (i : Nat), x]) ∧ ∀ xs, SqK k K H a xs → xs[i]? = some x, fun i H => ∃ xs : List V, SqK k K H a xs ∧ xs.length = i⟩
theorem turn_enumK {k : Bool} {P : Program} {w : World} {K : PySem.W.Frag} {elts : List Expr} {kk : Nat} {tpos : Pos} {a e it : Addr} (hea : e ≠ a) (hia : it ≠ a) (hei : e ≠ it) :
    Turn P w K (.Tuple elts kk tpos) (IteK k K a) [e, it] e (fun i h => (∃ old, IsEnum h e it ((i : Nat) : Int) old) ∧ ItK k h it a i) where
  mem := by simp
  obj := fun i h st b hb => by
    obtain ⟨⟨old, he⟩, hi⟩ := st
    have e' : b = e ∨ b = it := by simpa using hb
    rcases e' with z | z <;> rw [z]
    · exact ⟨_, he, fun v q => nomatch q⟩
    · exact itk_obj hi
  keep := fun i h h' st k => let ⟨⟨old, he⟩, hi⟩ := st; ⟨⟨old, k e (by simp) _ he⟩, itk_at hi fun o q => k it (by simp) o q⟩
  item := by
    intro X hP hw hK hc i pins s σ H E I hf st hg
    subst hP hw hK
    obtain ⟨⟨old, he⟩, hit⟩ := st
    obtain ⟨xs, hq, hx⟩ := hg
    obtain ⟨its, rv, p, _⟩ := seqk_of I hq
    have hh : X.A.in1.handled = none := I.ok.hd hc
    have D := draws_k (k := k) (prog := X.prog) (w := X.w) hh it a (Ne.symm hia) its.toArray
    have hl := rv.length
    have hel : e < s.heap.objs.size := Heap.lt_size he
    have hil : it < s.heap.objs.size := by obtain ⟨_, q, _⟩ := itk_obj hit; exact Heap.lt_size q
    refine wpAny_pyNext_enum_itemD D he ⟨hit, p⟩ (by simp; omega) hei (by simp [hei, hea]) fun u h' tk hu ho hs' hT hsz hk => ?_
    refine ⟨_, rfl, wpAny_letOwnedTupleGo_enum (s := { s with heap := h', toks := tk + 1 }) ho fun h'' he' sb => ?_⟩
    have hT2 : h''.get? s.heap.objs.size = some { cls := .type "tuple", data := .seq #[.int i tk, u] } := (sb.2 _ (Nat.ne_of_gt hel)).trans hT
    have gx : xs[i]? = some xs[i] := List.getElem?_eq_getElem hx
    obtain ⟨u', f1, ru⟩ := rv.get gx
    have c1 : u' = u := by have y1 : its[i]? = some u := by simpa using hu
                           exact Option.some.inj (f1.symm.trans y1)
    subst c1
    have new : ObjOk X.prog X.w (upd H s.heap.objs.size (.tup [.int (i : Nat), xs[i]])) h'' s.heap.objs.size (.tup [.int (i : Nat), xs[i]]) :=
      ⟨by show 2 ≤ sizeLine; decide, [.int i tk, u'], .cons ⟨_, rfl⟩ (.cons ru .nil), ⟨_, hT2, rfl, _, rfl⟩⟩
    have I1 : L2.Inv X pins σ (upd H s.heap.objs.size (.tup [.int (i : Nat), xs[i]])) { s with heap := h'', toks := tk + 1 } :=
      I.turnedNew (ch := [e, it]) (fun b ob hb q => (sb.2 b (fun z => hb (by simp [z]))).trans (hk b ob (fun z => hb (by simp [z])) (fun z => hb (by simp [z])) q)) hf (Nat.le_refl _) new
    refine ⟨.ref s.heap.objs.size, _, I1, rfl, ⟨_, xs[i], rfl, I.hok.fresh (Nat.le_refl _), rfl, fun ys hy => by rw [sqk_inj I hy hq]; exact gx⟩, ⟨⟨u', ?_⟩, itk_at hs'.1 fun o q => (sb.2 it (Ne.symm hei)).trans q⟩, fun b hb => ?_⟩
    · have e1 : ((i + 1 : Nat) : Int) = (i : Int) + 1 := by omega
      rw [e1]; exact he'
    · have hb' : b < s.heap.objs.size := by
        have e' : b = e ∨ b = it := by simpa using hb
        rcases e' with z | z <;> rw [z]
        · exact hel
        · exact hil
      rw [upd_ne (Nat.ne_of_lt hb')]
      exact (hf b hb).1
  done := by
    intro X hP hw hK hc i pins s σ H E I hf st hg
    subst hP hw hK
    obtain ⟨⟨old, he⟩, hit⟩ := st
    obtain ⟨xs, hq, hx⟩ := hg
    obtain ⟨its, rv, p, _⟩ := seqk_of I hq
    have hh : X.A.in1.handled = none := I.ok.hd hc
    have D := draws_k (k := k) (prog := X.prog) (w := X.w) hh it a (Ne.symm hia) its.toArray
    have hl := rv.length
    have hsz : its.toArray.size = i := by simp; omega
    rw [hsz] at D
    exact wpAny_pyNext_enum_endD D he ⟨hit, p⟩ fun h' eb => ⟨rfl, I.turnedL (t' := s.toks) (ch := [e, it]) (fun b o hb q => eb b o (fun z => hb (by simp [z])) q) hf⟩
  self := fun A i s Q E st h => let ⟨⟨_, he⟩, _⟩ := st; wpAny_pyIter_enum he h
def iEnumK (k : Bool) (K : PySem.W.Frag) (ta : TA) : TI := fun σ H R => ta σ H fun vs H1 => ∃ a xs, vs = [.ref a] ∧ SqK k K H1 a xs ∧ R (IteK k K a) H1
theorem pi_enumK {k : Bool} {X : Cx} {e : Expr} {ta : TA} {p pos tpos : Pos} {elts : List Expr} {kk : Nat} (hg : Gl X "enumerate") (hm : X.mg "enumerate" = none) (ha : PA X [e] ta) (hs : starEach [e] X.env = [(false, eval e X.env)] := by rfl) :
    PI X (.Tuple elts kk tpos) (.Call (.Name "enumerate" p) [e] [] pos) (iEnumK k X.K ta) := by
  refine ⟨fun pins s σ H R I h => Call_ (ld_blt I hg hm boot_enumerate (PyProof.Rows.callWith_type1 (thn (ha.run pos pins s σ H _ I h) fun us s1 ⟨vs, H1, I1, r1, q1⟩ => ?_) hs rfl))⟩
  obtain ⟨a, xs, rfl, hq, q⟩ := q1
  cases r1 with
  | cons r rr =>
    cases rr
    cases r
    obtain ⟨its, rv, p', la⟩ := seqk_of I1 hq
    refine call_enum_k (k := k) p' fun h' he hit hk => wpAny_pyIter_enum he ?_
    have I2 : L2.Inv X pins σ H1 { s1 with heap := h' } := I1.kept (t' := s1.toks) hk
    refine ⟨s1.heap.objs.size + 1, [s1.heap.objs.size + 1, s1.heap.objs.size], _, _, H1, rfl, I2, turn_enumK (k := k) (a := a) (Nat.ne_of_gt (Nat.lt_succ_of_lt la)) (Nat.ne_of_gt la) (Nat.succ_ne_self _), ⟨⟨.none, he⟩, hit⟩, fun b hb => ?_, q⟩
    have e' : b = s1.heap.objs.size + 1 ∨ b = s1.heap.objs.size := by simpa using hb
    have hle : s1.heap.objs.size ≤ b := by
      rcases e' with z | z <;> rw [z]
      · exact Nat.le_add_right _ _
      · exact Nat.le_refl _
    exact I1.fpOk hle (I1.hok.fresh hle)
def enumD (ds : List Dt) : List Dt := ds.mapIdx fun i d => .tuple [.int (i : Int), d]
theorem enumD_len (ds : List Dt) : (enumD ds).length = ds.length := by unfold enumD; rw [List.length_mapIdx]
theorem enumD_get {ds : List Dt} {i : Nat} {d : Dt} (h : (enumD ds)[i]? = some d) : ∃ x, ds[i]? = some x ∧ d = .tuple [.int (i : Int), x] := by
  unfold enumD at h
  rw [List.getElem?_mapIdx] at h
  cases e : ds[i]? with
  | none => rw [e] at h; cases h
  | some x =>
    rw [e] at h
    exact ⟨x, rfl, (Option.some.inj h).symm⟩
section
variable {X : Cx} {env env1 : LE} {μ μ1 μ2 μ3 : MU} {x y z : DE} {a b c e o tg iter elt : Expr} {es : List Expr} {p pos tpos pT : Pos} {elts : List Expr} {kk : Nat} {D : DN} {sts : List Stmt}
theorem it_enum {k : Bool} {ds : List Dt} (h : EvA X [a] env μ μ1 [.d (seqD k ds)]) (hg : Gl X "enumerate") (hm : X.mg "enumerate" = none) (hs : starEach [a] X.env = [(false, eval a X.env)] := by rfl) : Itb X (.Tuple elts kk tpos) (.Call (.Name "enumerate" p) [a] [] pos) env μ μ1 (enumD ds) := .mk fun σ G H A E S R q pins s I =>
  (pi_enumK (k := k) hg hm pA hs).run pins s σ H R I (h.run σ G H A E S _ fun vs G1 H1 A1 e1 m1 S1 r1 => by
    obtain ⟨v, rfl, r2⟩ := Rp.one r1
    cases r2 with
    | d r2 =>
      obtain ⟨pa, xs, rfl, ha, da⟩ := dp_seq r2
      have l1 := dpa_len da
      refine ⟨pa, xs, rfl, sqk_mono S1.ex ha, q _ G1 H1 A1 e1 m1 S1 ⟨fun H => Same G1 H, fun i H v H' => (IteK k X.K pa).yld i H v H' ∧ Same G1 H, ⟨?_, ?_, ?_⟩, fun H z => z, ?_⟩⟩
      · intro i H hi hS
        rw [enumD_len] at hi
        exact ⟨xs, sqk_mono hS ha, by omega⟩
      · intro H hS
        rw [enumD_len]
        exact ⟨xs, sqk_mono hS ha, by omega⟩
      · exact fun i H v H' hi hS y => ⟨y, hS⟩
      · rintro i H v H' d ⟨⟨T, x, rfl, hT, rfl, f1⟩, hS⟩ hd
        obtain ⟨d1, g1, rfl⟩ := enumD_get hd
        obtain ⟨v1, k1, k2⟩ := dpa_get da g1
        have z1 := Option.some.inj ((f1 xs (sqk_mono hS ha)).symm.trans k1)
        subst z1
        exact .inr ⟨T, [.int (i : Nat), x], _, rfl, hT, rfl, .cons (.int _) (.cons k2 .nil), rfl⟩)

/-! ### isinstance -/
def tyN : Dt → String
  | .none => "NoneType"
  | .bool _ => "bool"
  | .int _ => "int"
  | .str _ => "str"
  | .list _ => "list"
  | .tuple _ => "tuple"
  | .dict _ => "dict"
theorem dp_ty {K : PySem.W.Frag} {H : Hp} {v : V} {d : Dt} (h : Dp K H v d) : TyX K H v (.type (tyN d)) := by
  cases h with
  | non => exact .base .non
  | bl b => exact .base (.bl b)
  | int i => exact .base (.int i)
  | str x => exact .base (.str x)
  | lst h hs =>
    rcases h with (h | ⟨o, h⟩) | ⟨o, its, n, hk, hc, _⟩
    · exact .base (.lst h)
    · exact .base (.frz h)
    · exact .kList hk hc
  | tup h hs =>
    rcases h with (h | ⟨o, h⟩) | ⟨o, its, n, hk, hc, _⟩
    · exact .base (.tup h)
    · exact .fTuple h
    · exact .kTuple hk hc
/-- isinstance(e, T) -/
theorem ev_isi {d : Dt} {T : String} {nm : Str} {r : Bool} (h : Ev X a env μ μ1 x) (hx : Dv μ1 x d) (hr : kitB (tyN d) T = some r) (hg : Gl X "isinstance") (hm : X.mg "isinstance" = none) (hgT : Gl X nm) (hmT : X.mg nm = none) (hv : bootBuiltins nm = some (.type T))
    (hn : nm ≠ "__name__" := by decide) (hdb : (nm == ("__debug__" : Str)) = false := by decide)
    (hs1 : starEach [Expr.Name nm pT] X.env = [(false, eval (.Name nm pT) X.env)] := by rfl) (hs : starEach [a, .Name nm pT] X.env = (false, eval a X.env) :: starEach [.Name nm pT] X.env := by rfl) (hpl : (backTo pos (starEach [Expr.Name nm pT] X.env)).any (·.1) = false := by rfl) :
    Ev X (.Call (.Name "isinstance" p) [a, .Name nm pT] [] pos) env μ μ1 (.d (.bool r)) := .mk fun σ G H A E S Q q pins s I =>
  (pe_callB call_isi hg hm boot_isinstance (pa_cons pu (pa_cons (pe_bltn hgT hmT hv (v := .ty T) rfl hn hdb) pa_nil hs1) hs) (by decide) (by decide) hs hpl).run pins s σ H Q I (h.run σ G H A E S _ fun v G1 H1 A1 e1 p1 S1 r1 =>
    ⟨v, .ty T, .type (tyN d), .type T, r, rfl, .ty T, dp_ty (r1.dp S1 hx), kit_ty hr, q _ G1 H1 A1 e1 p1 S1 (.d (.bl r))⟩)
def isIntD : Dt → Bool
  | .int _ => true
  | .bool _ => true
  | _ => false
def isBoolD : Dt → Bool
  | .bool _ => true
  | _ => false
def isTupD : Dt → Bool
  | .tuple _ => true
  | _ => false
def isStrD : Dt → Bool
  | .str _ => true
  | _ => false
def noDict : Dt → Bool
  | .dict _ => false
  | _ => true
theorem kit_int : ∀ d, kitB (tyN d) "int" = some (isIntD d)
  | .none => by decide +kernel
  | .bool _ => by show kitB "bool" "int" = some true; decide +kernel
  | .int _ => by show kitB "int" "int" = some true; decide +kernel
  | .str _ => by show kitB "str" "int" = some false; decide +kernel
  | .list _ => by show kitB "list" "int" = some false; decide +kernel
  | .tuple _ => by show kitB "tuple" "int" = some false; decide +kernel
  | .dict _ => by show kitB "dict" "int" = some false; decide +kernel
theorem kit_bool : ∀ d, kitB (tyN d) "bool" = some (isBoolD d)
  | .none => by decide +kernel
  | .bool _ => by show kitB "bool" "bool" = some true; decide +kernel
  | .int _ => by show kitB "int" "bool" = some false; decide +kernel
  | .str _ => by show kitB "str" "bool" = some false; decide +kernel
  | .list _ => by show kitB "list" "bool" = some false; decide +kernel
  | .tuple _ => by show kitB "tuple" "bool" = some false; decide +kernel
  | .dict _ => by show kitB "dict" "bool" = some false; decide +kernel
theorem kit_tup : ∀ d, kitB (tyN d) "tuple" = some (isTupD d)
  | .none => by decide +kernel
  | .bool _ => by show kitB "bool" "tuple" = some false; decide +kernel
  | .int _ => by show kitB "int" "tuple" = some false; decide +kernel
  | .str _ => by show kitB "str" "tuple" = some false; decide +kernel
  | .list _ => by show kitB "list" "tuple" = some false; decide +kernel
  | .tuple _ => by show kitB "tuple" "tuple" = some true; decide +kernel
  | .dict _ => by show kitB "dict" "tuple" = some false; decide +kernel
theorem kit_str : ∀ d, kitB (tyN d) "str" = some (isStrD d)
  | .none => by decide +kernel
  | .bool _ => by show kitB "bool" "str" = some false; decide +kernel
  | .int _ => by show kitB "int" "str" = some false; decide +kernel
  | .str _ => by show kitB "str" "str" = some true; decide +kernel
  | .list _ => by show kitB "list" "str" = some false; decide +kernel
  | .tuple _ => by show kitB "tuple" "str" = some false; decide +kernel
  | .dict _ => by show kitB "dict" "str" = some false; decide +kernel

/-! ### lists that are made to be changed -/
theorem ev_repC {k : Nat} {ds : List Dt} {n : Int} (ha : Ev X a env μ μ1 (.c k)) (hb : Ev X b env μ1 μ2 (.d (.int n))) (hk : μ2[k]? = some (some (Cl.lst ds))) (h0 : 0 ≤ n) (h1 : n ≤ 1000) (h2 : ds.length ≤ 1000) : Ev X (.BinOp a .Mult b pos) env μ (μ2 ++ [some (Cl.lst (List.replicate n.toNat ds).flatten)]) (.c μ2.length) := by
  refine ev_op op_rep ha hb fun G H A v w S r1 r2 Q q => ?_
  cases r1 with
  | @c _ l hA =>
    obtain ⟨_, xs, hx, dd⟩ := S.cell k l ds hA hk
    have hl := dpa_len dd
    refine ⟨l, n, xs, rfl, r2.int, hx, by omega, by omega, ?_, fun p hp => q.newC S hp (dpa_rep dd n.toNat)⟩
    have : xs.length * n.toNat ≤ 1000 * 1000 := Nat.mul_le_mul (by omega) (by omega)
    rw [sizeLine_eq]; omega
/-- a list of ours is data from here on -/
theorem bs_freeze (i : Nat) {k : Nat} {ds : List Dt} (hi : env[i]? = some (some (.c k))) (hk : μ[k]? = some (some (Cl.lst ds))) (h : Bs X sts (env.set i (some (.d (.list ds)))) (μ.set k none) D) : Bs X sts env μ D := .mk fun σ G H A E S N q => by
  obtain ⟨v, hv, rv⟩ := E.2 i _ hi
  cases rv with
  | @c _ a hA =>
    obtain ⟨G2, e2, g2, S2, d2⟩ := S.freeze hA hk
    have m2 : Mv G A H G2 A H := ⟨⟨[], by rw [List.append_nil], fun a h => absurd h (by simp)⟩, fun _ _ h _ => h, fun _ h => h, fun b hb => by
      rcases g2 b hb with z | z
      · exact .inl z
      · exact .inr (.inr z)⟩
    have E2 := (E.mv e2 m2).set (.d d2) i
    have es : σ.set i (some (.ref a)) = σ := by
      refine List.ext_getElem? fun j => ?_
      by_cases hj : i = j
      · subst hj; rw [List.getElem?_set_self (lt_get hv), hv]
      · rw [List.getElem?_set_ne hj]
    rw [es] at E2
    exact h.run σ G2 H A E2 S2 N (q.mono e2 m2)
/-- xs.index(e) of texts -/
theorem ev_index {ns : List Str} {s : Str} {j : Nat} {ap : Pos} (ho : Ev X o env μ μ1 x) (h : Ev X e env μ1 μ2 (.d (.str s))) (hx1 : Dv μ1 x (.list (ns.map .str))) (hx : Dv μ2 x (.list (ns.map .str))) (hj : ns[j]? = some s) (hno : ∀ m t, m < j → ns[m]? = some t → t ≠ s)
    (hbase : attributeBase o "index" X.env (eval o X.env) = eval o X.env := by rfl)
    (hfew : ((backTo pos (starEach [e] X.env)).all (fun x => !x.1) && (backToKw pos (keywordEach [] X.env)).all (fun x => x.1.isSome) && decide ([e].length + ([] : List Keyword).length + (if ([] : List Keyword).isEmpty then 0 else 1) < 30)) = true := by rfl)
    (hline : (ap.endLine == pos.line) = true := by rfl) (hs : starEach [e] X.env = (false, eval e X.env) :: starEach [] X.env := by rfl) (hplain : (backTo pos (starEach [] X.env)).any (·.1) = false := by rfl) :
    Ev X (.Call (.Attribute o "index" ap) [e] [] pos) env μ μ2 (.d (.int (j : Int))) := .mk fun σ G H A E S Q q pins s' I =>
  (pe_bm PySem.F.plainAttrs_list PySem.F.slot_list_index PySem.F.type_list_index mt_index pu (pa_cons pu pa_nil hs) hbase hfew hline hs hplain).run pins s' σ H Q I (ho.run σ G H A E S _ fun v G1 H1 A1 e1 p1 S1 r1 => by
    obtain ⟨a1, xs1, rfl, t1, _⟩ := r1.lst S1 hx1
    refine ⟨?_, h.run σ G1 H1 A1 (E.mv e1 p1) S1 _ fun w G2 H2 A2 e2 p2 S2 r2 => ?_⟩
    · rcases t1 with (t | ⟨o', t⟩) | t
      · exact .inl ⟨rfl, _, .inl (.inl t)⟩
      · exact .inl ⟨rfl, _, .inl (.inr ⟨o', t⟩)⟩
      · exact .inl ⟨rfl, _, .inr t⟩
    · obtain ⟨a2, xs, ea, t, dd⟩ := (r1.mv e2 p2).lst S2 hx
      have eX := dpa_strs dd
      subst eX
      have fl : (ns.map V.str).all flatV = true := by
        rw [List.all_eq_true]
        intro z hz
        obtain ⟨u, _, rfl⟩ := List.mem_map.mp hz
        rfl
      refine ⟨a2, ns.map V.str, .str s, j, .str s, ea, by rw [r2.str], t, rfl, fl, by rw [List.getElem?_map, hj]; rfl, ?_, fun m z hm hz => ?_, (q.mono (e1.trans e2) (p1.trans p2)).now S2 (.d (.int _))⟩
      · simp [eqV]
      · obtain ⟨t', g1, rfl⟩ := map_get hz
        have := hno m t' hm g1
        simp [eqV, this])
end
end Rw
/-! RwH: data that may be compared; what is a fraction, places, a standing; who can step off. -/
namespace Rw
open PySem PySem.Spec PyProof.Rows L2
structure Lay (n : Nat) (d : Dt) : Prop where
  can : d.canLay0 = true
  dep : d.depth ≤ n
theorem Lay.sh {n : Nat} {d : Dt} (h : Lay n d) (hn : n ≤ 64) : SeqAt.shaped d = true := by
  unfold SeqAt.shaped
  rw [h.can, decide_eq_true (Nat.le_trans h.dep hn)]; rfl
theorem Lay.mono {n m : Nat} {d : Dt} (h : Lay n d) (hn : n ≤ m) : Lay m d := ⟨h.can, Nat.le_trans h.dep hn⟩
theorem lay_all {n : Nat} : ∀ {ds : List Dt}, (∀ x ∈ ds, Lay n x) → PyData.canLayAll0 ds = true ∧ PyData.depthAll ds ≤ n
  | [], _ => ⟨by simp [PyData.canLayAll0], by simp [PyData.depthAll]⟩
  | d :: ds, h => by
    obtain ⟨h1, h2⟩ := lay_all (ds := ds) fun x hx => h x (by simp [hx])
    have h3 := h d (by simp)
    refine ⟨by simp [PyData.canLayAll0, h1, h3.can], ?_⟩
    have := h3.dep
    simp only [PyData.depthAll]; omega
theorem lay_tup {n : Nat} {ds : List Dt} (h : ∀ x ∈ ds, Lay n x) : Lay (n + 1) (.tuple ds) := by
  obtain ⟨h1, h2⟩ := lay_all h
  exact ⟨by simp [PyData.canLay0, h1], by simp only [PyData.depth]; omega⟩
theorem lay_lst {n : Nat} {ds : List Dt} (h : ∀ x ∈ ds, Lay n x) : Lay (n + 1) (.list ds) := by
  obtain ⟨h1, h2⟩ := lay_all h
  exact ⟨by simp [PyData.canLay0, h1], by simp only [PyData.depth]; omega⟩
theorem lay_int (i : Int) : Lay 0 (.int i) := ⟨by simp [PyData.canLay0], by simp [PyData.depth]⟩
theorem lay_none : Lay 0 .none := ⟨by simp [PyData.canLay0], by simp [PyData.depth]⟩
theorem lay_str {s : Str} (h : PyData.canLay0 (.str s) = true) : Lay 0 (.str s) := ⟨h, by simp [PyData.depth]⟩
theorem lay_t2 {n : Nat} {a b : Dt} (h1 : Lay n a) (h2 : Lay n b) : Lay (n + 1) (.tuple [a, b]) := lay_tup fun x hx => by
  have : x = a ∨ x = b := by simpa using hx
  rcases this with rfl | rfl
  · exact h1
  · exact h2
theorem lay_rD (x : Rat) : Lay 1 (rD x) := lay_t2 (lay_int _) (lay_int _)
theorem lay_pl (ps : List Rat) : Lay 2 (plD ps) := lay_tup fun x hx => by
  obtain ⟨p, _, rfl⟩ := List.mem_map.mp hx
  exact lay_rD p
def NmOk (fs : List Man) : Prop := ∀ m ∈ fs, PyData.canLay0 (.str m.nm) = true
theorem lay_man {m : Man} (h : PyData.canLay0 (.str m.nm) = true) : Lay 1 (manD m) := lay_tup fun x hx => by
  have : x = .str m.nm ∨ x = .int m.hv ∨ x = .int m.rc := by simpa using hx
  rcases this with rfl | rfl | rfl
  · exact lay_str h
  · exact lay_int _
  · exact lay_int _
theorem lay_folk {fs : List Man} (h : NmOk fs) : Lay 2 (folkD fs) := lay_tup fun x hx => by
  obtain ⟨m, hm, rfl⟩ := List.mem_map.mp hx
  exact lay_man (h m hm)
theorem names_lay : ∀ s ∈ allNames, PyData.canLay0 (.str s) = true := by decide +kernel
theorem names_nd : allNames.Nodup := by decide +kernel
theorem folk_nm (n : Int) (s : Bag) : NmOk (folkV n s) := fun m hm => by
  have h1 : m.nm ∈ (folkV n s).map (·.nm) := List.mem_map.mpr ⟨m, hm, rfl⟩
  unfold folkV at h1
  rw [menR_nm] at h1
  exact names_lay _ (List.mem_of_mem_take h1)
theorem folk_nd (n : Int) (s : Bag) : ((folkV n s).map (·.nm)).Nodup := by
  unfold folkV
  rw [menR_nm]
  exact (List.take_sublist _ _).nodup names_nd
theorem eqv_str (a b : Str) : PyData.eqv (.str a) (.str b) = decide (a = b) := by
  rw [PyData.eqv]
  by_cases h : a = b
  · subst h; rw [decide_eq_true rfl]; exact beq_self_eq_true a
  · rw [decide_eq_false h]; exact beq_eq_false_iff_ne.mpr h
theorem eqv_rD (x y : Rat) : PyData.eqv (rD x) (rD y) = decide (x = y) := by
  unfold rD
  simp only [PyData.eqv, PyData.eqvAll]
  by_cases h : x = y
  · subst h; simp
  · rw [decide_eq_false h]
    by_cases h1 : x.num = y.num
    · have h2 : x.den ≠ y.den := fun h2 => h (Rat.ext h1 h2)
      have h3 : ((x.den : Int) == (y.den : Int)) = false := beq_eq_false_iff_ne.mpr (by omega)
      simp [h3]
    · simp [h1]
/-! ### whole numbers, fractions, places, standings of any data -/
def wholeB : Dt → Bool
  | .int _ => true
  | _ => false
theorem whole_so (d : Dt) : (isIntD d && !isBoolD d) = wholeB d := by cases d <;> rfl
theorem whole_int {d : Dt} (h : wholeB d = true) : ∃ i, d = .int i := by
  cases d <;> first | exact ⟨_, rfl⟩ | cases h
def intOf : Dt → Int
  | .int i => i
  | _ => 0
def tupB (d : Dt) (n : Int) : Bool := match d with
  | .tuple xs => decide ((xs.length : Int) = n)
  | _ => false
theorem tup_so {d : Dt} {n : Int} (h : tupB d n = true) : ∃ xs : List Dt, d = .tuple xs ∧ (xs.length : Int) = n := by
  cases d with
  | tuple xs => exact ⟨xs, rfl, of_decide_eq_true h⟩
  | _ => cases h
theorem len2 {xs : List Dt} (h : (xs.length : Int) = 2) : ∃ a b, xs = [a, b] := by
  match xs, h with
  | [a, b], _ => exact ⟨a, b, rfl⟩
  | [], h => simp at h
  | [_], h => simp at h
  | _ :: _ :: _ :: _, h => simp at h; omega
def fracP (t b : Dt) : Bool := !(!wholeB t || (!wholeB b || (decide (intOf t < 0) || decide (intOf b < 1)))) && decide (Nat.gcd (intOf t).toNat (intOf b).toNat = 1)
def fracB : Dt → Bool
  | .tuple [t, b] => fracP t b
  | _ => false
theorem frac_no {d : Dt} (h : tupB d 2 = false) : fracB d = false := by
  cases d with
  | tuple xs =>
    match xs, h with
    | [], _ => rfl
    | [_], _ => rfl
    | [_, _], h => simp [tupB] at h
    | _ :: _ :: _ :: _, _ => rfl
  | _ => rfl
theorem frac_is {d : Dt} (h : fracB d = true) : ∃ x : Rat, 0 ≤ x ∧ d = rD x := by
  match d, h with
  | .tuple [t, b], h =>
    have h : fracP t b = true := h
    unfold fracP at h
    rw [Bool.and_eq_true, Bool.not_eq_true', Bool.or_eq_false_iff, Bool.or_eq_false_iff, Bool.or_eq_false_iff] at h
    obtain ⟨⟨h1, h2, h3, h4⟩, h5⟩ := h
    obtain ⟨i, rfl⟩ := whole_int (d := t) (by simpa using h1)
    obtain ⟨j, rfl⟩ := whole_int (d := b) (by simpa using h2)
    have h3 : ¬ i < 0 := of_decide_eq_false h3
    have h4 : ¬ j < 1 := of_decide_eq_false h4
    have h5 : Nat.gcd i.toNat j.toNat = 1 := of_decide_eq_true h5
    have e1 : i.natAbs = i.toNat := by omega
    refine ⟨⟨i, j.toNat, by omega, by rw [e1]; exact h5⟩, ?_, ?_⟩
    · rw [← Rat.num_nonneg]; show 0 ≤ i; omega
    · show PyData.tuple [.int i, .int j] = .tuple [.int i, .int ((j.toNat : Nat) : Int)]
      rw [Int.toNat_of_nonneg (by omega)]
theorem frac_rD {x : Rat} (h : 0 ≤ x) : fracB (rD x) = true := by
  have h0 := Rat.num_nonneg.mpr h
  have hd := dn_pos x
  have hr : Nat.gcd x.num.toNat x.den = 1 := by
    have := x.reduced
    have e1 : x.num.natAbs = x.num.toNat := by omega
    rw [Nat.Coprime, e1] at this
    exact this
  have e1 : decide (intOf (.int x.num) < 0) = false := decide_eq_false (show ¬ x.num < 0 by omega)
  have e2 : decide (intOf (.int (x.den : Int)) < 1) = false := decide_eq_false (show ¬ (x.den : Int) < 1 by omega)
  have e3 : decide (Nat.gcd (intOf (.int x.num)).toNat (intOf (.int (x.den : Int))).toNat = 1) = true := decide_eq_true hr
  show fracP (.int x.num) (.int (x.den : Int)) = true
  unfold fracP
  rw [e1, e2, e3]
  rfl
/-- a place on the raft -/
def plcB (r : Raft) (p : Dt) : Bool := fracB p && (match p with
  | .tuple [.int t, .int b] => decide (t * 1 ≤ r.lg * b)
  | _ => false)
theorem plc_rD {r : Raft} {x : Rat} (h : 0 ≤ x) : plcB r (rD x) = decide (x ≤ (r.lg : Rat)) := by
  unfold plcB
  rw [frac_rD h, Bool.true_and]
  show decide (x.num * 1 ≤ r.lg * (x.den : Int)) = _
  rw [decide_eq_decide, Rat.le_iff]
  rfl
def plsB (r : Raft) (n : Nat) (d : Dt) : Bool := match d with
  | .tuple xs => decide ((xs.length : Int) = (n : Int)) && xs.all (plcB r)
  | _ => false
def stdB (r : Raft) (n : Nat) (d : Dt) : Bool := match d with
  | .tuple [g, p] => fracB g && plsB r n p
  | _ => false
theorem std_no {r : Raft} {n : Nat} {d : Dt} (h : tupB d 2 = false) : stdB r n d = false := by
  cases d with
  | tuple xs =>
    match xs, h with
    | [], _ => rfl
    | [_], _ => rfl
    | [_, _], h => simp [tupB] at h
    | _ :: _ :: _ :: _, _ => rfl
  | _ => rfl
/-- fractions in it are not too great -/
def SmP : Dt → Prop
  | .tuple xs => xs.length ≤ 900 ∧ ∀ x : Rat, rD x ∈ xs → Sz 3000 x
  | _ => True
/-! ### who can step off -/
def dropAt {α : Type} (l : List α) (j : Nat) : List α := l.take j ++ l.drop (j + 1)
theorem dropAt_map {α β : Type} (f : α → β) (l : List α) (j : Nat) : (dropAt l j).map f = dropAt (l.map f) j := by unfold dropAt; rw [List.map_append, List.map_take, List.map_drop]
theorem cut_from (xs : List Dt) {k : Nat} (h : k ≤ xs.length) : cutD xs (some (k : Int)) none = xs.drop k := by
  unfold cutD
  rw [HT.sIx_none, HT.sIx_nat, Nat.min_eq_left h]
  exact List.take_of_length_le (by rw [List.length_drop]; exact Nat.le_refl _)
theorem wt_app (a b : List Man) : wt (a ++ b) = wt a + wt b := by unfold wt; rw [List.map_append, List.sum_append]
theorem wt_drop {fs : List Man} {j : Nat} {m : Man} (h : fs[j]? = some m) : wt (dropAt fs j) = wt fs - m.hv := by
  have hj := lt_get h
  have e : fs = fs.take j ++ m :: fs.drop (j + 1) := by
    have h3 := List.getElem?_eq_getElem hj
    rw [h3] at h
    rw [← Option.some.inj h, ← List.drop_eq_getElem_cons hj, List.take_append_drop]
  have h2 : wt fs = wt (fs.take j) + (m.hv + wt (fs.drop (j + 1))) := by
    conv => lhs; rw [e]
    rw [wt_app, wt_cons]
  unfold dropAt
  rw [wt_app]; omega
/-- one place for the others -/
def poo (r : Raft) (fs : List Man) (x : Rat) (m : Man) : Option Rat :=
  if x - (m.rc : Rat) ≤ 0 then some 0
  else if wt fs - m.hv = 0 then none
  else if (x - (m.rc : Rat)) * (tot r fs : Rat) / ((wt fs - m.hv : Int) : Rat) ≤ (r.lg : Rat) then some ((x - (m.rc : Rat)) * (tot r fs : Rat) / ((wt fs - m.hv : Int) : Rat)) else none
def optD : Option Rat → Dt
  | none => .none
  | some x => rD x
theorem opt_non (o : Option Rat) : isNon (.d (optD o)) = o.isNone := by cases o <;> rfl
def pooPl (n j : Nat) (p : Rat) : List Rat := (List.range n).map fun k => if k = j then 0 else p
end Rw
/-! RwL: what the laws share. -/
namespace Rw
open PySem PySem.Spec PyProof.Rows L2
theorem it_is {X : Cx} {tg iter : Expr} {env : LE} {μ μ1 : MU} {ds es : List Dt} (h : Itb X tg iter env μ μ1 ds) (q : ds = es) : Itb X tg iter env μ μ1 es := q ▸ h
theorem lg_sz {r : Raft} (hr : r.ok) : Sz 240 (r.lg : Rat) := (Sz.int (n := 10) (by have := hr.1; have := hr.2.1; omega) (by omega)).mono (by omega)
/-- a gap, or None where it would be below nought -/
def gapD (x : Rat) : Dt := if 0 ≤ x then rD x else .none
/-- all at one place -/
def allAt (fs : List Man) (x : Rat) : List Rat := fs.map fun _ => x
theorem Good.all {r : Raft} {fs : List Man} (hr : r.ok) (h : Men fs) {x : Rat} (hx : Sz 240 x) : Good r fs (allAt fs x) := ⟨hr, h, by unfold allAt; rw [List.length_map], fun p hp => by
    unfold allAt at hp
    obtain ⟨_, _, rfl⟩ := List.mem_map.mp hp
    exact hx⟩
def leastG (r : Raft) (fs : List Man) (x : Rat) : Rat := if 0 ≤ x - drv r fs (allAt fs (r.lg : Rat)) then x - drv r fs (allAt fs (r.lg : Rat)) else 0
theorem gapD_non (x : Rat) : isNon (.d (gapD x)) = decide (¬ 0 ≤ x) := by
  unfold gapD
  by_cases h : 0 ≤ x
  · rw [if_pos h, decide_eq_false (fun z => z h)]; rfl
  · rw [if_neg h, decide_eq_true h]; rfl
structure Good3 (fs : List Man) (ps qs : List Rat) : Prop where
  mn : Men fs
  l1 : fs.length = ps.length
  l2 : fs.length = qs.length
  s1 : ∀ p ∈ ps, Sz 240 p
  s2 : ∀ p ∈ qs, Sz 240 p
/-- places in a list (true) or in a tuple -/
def plK (k : Bool) (qs : List Rat) : Dt := seqD k (qs.map rD)
/-- the gap behind a walk, below nought too -/
def gapV (r : Raft) (fs : List Man) (g : Rat) (ps qs : List Rat) : Rat := g - shf fs ps qs / (tot r fs : Rat)
theorem repD (n : Nat) (x : Rat) : plD (List.replicate n x) = .tuple (List.replicate n (rD x)) := by unfold plD; rw [List.map_replicate]
theorem mom_rep : ∀ (fs : List Man) (x : Rat), mom fs (List.replicate fs.length x) = x * (wt fs : Rat)
  | [], x => by rw [mom_nil]; simp [wt]
  | m :: fs, x => by
    rw [List.length_cons, List.replicate_succ, mom, mom_rep fs x, wt_cons, Rat.intCast_add]
    grind
theorem front_so {r : Raft} {fs : List Man} {g : Rat} {ps : List Rat} (h : fs.length = ps.length) : gapV r fs g ps (List.replicate fs.length 0) = front r fs g ps := by
  unfold gapV front drv
  rw [shf_mom h (by rw [List.length_replicate]), mom_rep]
  grind
theorem Good3.rep {fs : List Man} {ps : List Rat} {x : Rat} (h : Men fs) (h1 : fs.length = ps.length) (h2 : ∀ p ∈ ps, Sz 240 p) (hx : Sz 240 x) : Good3 fs ps (List.replicate fs.length x) := ⟨h, h1, by rw [List.length_replicate], h2, fun p hp => by rw [List.eq_of_mem_replicate hp]; exact hx⟩
/-- one draw of the law: a raft, folk, a standing -/
structure Draw (r : Raft) (fs : List Man) (g : Rat) (ps : List Rat) : Prop where
  rf : r.ok
  mn : Men fs
  l1 : 1 ≤ fs.length
  ln : fs.length = ps.length
  pl : ∀ p ∈ ps, PlOk r p
  g0 : 0 ≤ g
  gs : Sz 12 g
theorem Draw.good {r : Raft} {fs : List Man} {g : Rat} {ps : List Rat} (d : Draw r fs g ps) {qs : List Rat} (hl : fs.length = qs.length) (hq : ∀ p ∈ qs, PlOk r p) : Good r fs qs := ⟨d.rf, d.mn, hl, fun p hp => (hq p hp).sz.mono (by omega)⟩
theorem Draw.good3 {r : Raft} {fs : List Man} {g : Rat} {ps : List Rat} (d : Draw r fs g ps) {qs : List Rat} (hl : fs.length = qs.length) (hq : ∀ p ∈ qs, Sz 240 p) : Good3 fs ps qs := ⟨d.mn, d.ln, hl, fun p hp => (d.pl p hp).sz.mono (by omega), hq⟩
theorem rat_pos_of {x : Int} (h : 1 ≤ x) : (0 : Rat) < (x : Rat) := Rat.intCast_pos.mpr (by omega)
theorem gap_is {r : Raft} {fs : List Man} {g : Rat} {ps qs : List Rat} (h1 : fs.length = ps.length) (h2 : fs.length = qs.length) : gapV r fs g ps qs = front r fs g ps - drv r fs qs := by
  unfold gapV front drv
  rw [shf_mom h1 h2]
  grind
theorem mom_lo {r : Raft} : ∀ {fs : List Man} {ps : List Rat}, (∀ m ∈ fs, m.ok) → (∀ p ∈ ps, PlOk r p) → 0 ≤ mom fs ps
  | [], ps, _, _ => by rw [mom_nil]; exact Rat.le_refl
  | m :: fs, [], _, _ => Rat.le_refl
  | m :: fs, p :: ps, h1, h2 => by
    have ih := mom_lo (fs := fs) (ps := ps) (fun x hx => h1 x (by simp [hx])) (fun x hx => h2 x (by simp [hx]))
    have a := (h2 p (by simp)).lo
    have b : (0 : Rat) < (m.hv : Rat) := rat_pos_of (h1 m (by simp)).1
    have := Rat.mul_nonneg a (Rat.le_of_lt b)
    simp only [mom]
    grind
theorem mom_hi {r : Raft} : ∀ {fs : List Man} {ps : List Rat}, (∀ m ∈ fs, m.ok) → (∀ p ∈ ps, PlOk r p) → fs.length = ps.length → mom fs ps ≤ (r.lg : Rat) * (wt fs : Rat)
  | [], ps, _, _, _ => by rw [mom_nil]; simp [wt]
  | m :: fs, [], _, _, h => by simp at h
  | m :: fs, p :: ps, h1, h2, h => by
    have ih := mom_hi (fs := fs) (ps := ps) (fun x hx => h1 x (by simp [hx])) (fun x hx => h2 x (by simp [hx])) (by simpa using h)
    have a := (h2 p (by simp)).hi
    have b : (0 : Rat) < (m.hv : Rat) := rat_pos_of (h1 m (by simp)).1
    have := Rat.mul_le_mul_of_nonneg_right a (Rat.le_of_lt b)
    simp only [mom]
    rw [wt_cons, Rat.intCast_add]
    grind
theorem allAt_rep (fs : List Man) (x : Rat) : allAt fs x = List.replicate fs.length x := by
  unfold allAt
  induction fs with
  | nil => rfl
  | cons m fs ih => rw [List.map_cons, ih, List.length_cons, List.replicate_succ]
theorem div_mono {a b m : Rat} (h : a ≤ b) (hm : 0 < m) : a / m ≤ b / m := by
  rw [Rat.div_def, Rat.div_def]
  exact Rat.mul_le_mul_of_nonneg_right h (Rat.le_of_lt (Rat.inv_pos.mpr hm))
theorem drv_bd {r : Raft} {fs : List Man} {ps : List Rat} (hr : r.ok) (hm : Men fs) (hp : ∀ p ∈ ps, PlOk r p) (hl : fs.length = ps.length) : 0 ≤ drv r fs ps ∧ drv r fs ps ≤ drv r fs (allAt fs (r.lg : Rat)) := by
  have ht : (0 : Rat) < (tot r fs : Rat) := rat_pos_of (tot_bd hr hm).1
  have h1 := mom_lo hm.2 hp
  have h2 := mom_hi hm.2 hp hl
  refine ⟨?_, ?_⟩
  · have := div_mono h1 ht
    have e : (0 : Rat) / (tot r fs : Rat) = 0 := by grind
    rw [e] at this; exact this
  · unfold drv
    refine div_mono ?_ ht
    rw [allAt_rep, mom_rep]; exact h2
theorem eqv_same {d : Dt} (h : SeqAt.shaped d = true) : PyData.eqv d d = true := SeqAt.eqv_refl d (SeqAt.canLay_of_shaped h)
theorem c_neS {X : Cx} {μ : MU} {x y : DE} {d : Dt} (hu : X.A.units + 64 < cLine) (e1 : Dv μ x d) (e2 : Dv μ y d) (h : SeqAt.shaped d = true) : CmpD X .NotEq x y μ false := by
  have := c_ne hu e1 e2 h h
  rw [eqv_same h] at this
  exact this
theorem shaped_r2 (x y : Rat) : SeqAt.shaped (.tuple [rD x, rD y]) = true := by
  unfold SeqAt.shaped rD; simp [PyData.canLay0, PyData.canLayAll0, PyData.depth, PyData.depthAll]
theorem shaped_gap (x : Rat) : SeqAt.shaped (gapD x) = true := by
  unfold gapD; split
  · exact shaped_rD x
  · exact shaped_none
theorem num_nn (x : Rat) : decide (0 ≤ x.num) = decide (0 ≤ x) := by rw [decide_eq_decide]; exact Rat.num_nonneg
theorem rc_sz {m : Man} (h : m.ok) : Sz 240 (m.rc : Rat) := (Sz.int (n := 8) (by have := h.2.2.1; have := h.2.2.2; omega) (by omega)).mono (by omega)
theorem dropD (fs : List Man) (j : Nat) : folkD (dropAt fs j) = .tuple (dropAt (fs.map manD) j) := by unfold folkD; rw [dropAt_map]
theorem dropAt_len {α : Type} {l : List α} {j : Nat} : (dropAt l j).length ≤ l.length := by unfold dropAt; rw [List.length_append, List.length_take, List.length_drop]; omega
theorem dropAt_mem {α : Type} {l : List α} {j : Nat} {x : α} (h : x ∈ dropAt l j) : x ∈ l := by
  unfold dropAt at h
  rcases List.mem_append.mp h with h | h
  · exact List.mem_of_mem_take h
  · exact List.mem_of_mem_drop h
/-- the first of the name -/
def ixOf (fs : List Man) (s : Str) : Option Nat := fs.findIdx? fun m => decide (m.nm = s)
def ixD : Option Nat → Dt
  | some j => .int (j : Int)
  | none => .none
end Rw
/-! RwQ: who can step off: the mathematics; left-overs of tuples. -/
namespace Rw
open PySem PySem.Spec PyProof.Rows L2
theorem rD_inj {x y : Rat} (h : rD x = rD y) : x = y := by
  unfold rD at h
  injection h with h
  injection h with h1 h2
  injection h1 with h1
  injection h2 with h2 _
  injection h2 with h2
  exact Rat.ext h1 (by omega)
theorem mom_app : ∀ {a b : List Man} {p q : List Rat}, a.length = p.length → mom (a ++ b) (p ++ q) = mom a p + mom b q
  | [], b, [], q, _ => by rw [mom_nil]; simp [Rat.zero_add]
  | m :: a, b, x :: p, q, h => by
    simp only [List.cons_append, mom]
    rw [mom_app (a := a) (p := p) (by simpa using h), Rat.add_assoc]
  | [], b, x :: p, q, h => by simp at h
  | m :: a, b, [], q, h => by simp at h
theorem pooPl_len (n j : Nat) (p : Rat) : (pooPl n j p).length = n := by unfold pooPl; rw [List.length_map, List.length_range]
theorem pooPl_get {n j k : Nat} {p : Rat} (h : k < n) : (pooPl n j p)[k]? = some (if k = j then 0 else p) := by
  unfold pooPl
  rw [List.getElem?_map, List.getElem?_range h]; rfl
theorem pooPl_split {n j : Nat} {p : Rat} (h : j < n) : pooPl n j p = List.replicate j p ++ 0 :: List.replicate (n - j - 1) p := by
  refine List.ext_getElem? fun k => ?_
  rcases Nat.lt_or_ge k n with hk | hk
  · rw [pooPl_get hk]
    rcases Nat.lt_trichotomy k j with q | q | q
    · rw [if_neg (by omega), List.getElem?_append_left (by rw [List.length_replicate]; exact q), List.getElem?_replicate_of_lt q]
    · subst q
      rw [if_pos rfl, List.getElem?_append_right (by rw [List.length_replicate]; exact Nat.le_refl _), List.length_replicate, Nat.sub_self]; rfl
    · rw [if_neg (by omega), List.getElem?_append_right (by rw [List.length_replicate]; omega), List.length_replicate]
      obtain ⟨d, hd⟩ : ∃ d, k - j = d + 1 := ⟨k - j - 1, by omega⟩
      rw [hd, List.getElem?_cons_succ, List.getElem?_replicate_of_lt (by omega)]
  · rw [List.getElem?_eq_none_iff.mpr (by rw [pooPl_len]; exact hk), List.getElem?_eq_none_iff.mpr (by simp; omega)]
theorem mom_poo {fs : List Man} {j : Nat} {m : Man} (h : fs[j]? = some m) (p : Rat) : mom fs (pooPl fs.length j p) = p * ((wt fs - m.hv : Int) : Rat) := by
  have hj := lt_get h
  have e : fs = fs.take j ++ m :: fs.drop (j + 1) := by
    have h3 := List.getElem?_eq_getElem hj
    rw [h3] at h
    rw [← Option.some.inj h, ← List.drop_eq_getElem_cons hj, List.take_append_drop]
  have hl : (fs.take j).length = j := by rw [List.length_take]; omega
  have hd : (fs.drop (j + 1)).length = fs.length - j - 1 := by rw [List.length_drop]; omega
  have hw := wt_drop h
  unfold dropAt at hw
  rw [wt_app] at hw
  rw [pooPl_split hj]
  conv => lhs; rw [e]
  rw [mom_app (by rw [hl, List.length_replicate])]
  have e1 : mom (fs.take j) (List.replicate j p) = p * (wt (fs.take j) : Rat) := by
    have := mom_rep (fs.take j) p
    rw [hl] at this; exact this
  have e2 : mom (fs.drop (j + 1)) (List.replicate (fs.length - j - 1) p) = p * (wt (fs.drop (j + 1)) : Rat) := by
    have := mom_rep (fs.drop (j + 1)) p
    rw [hd] at this; exact this
  have e3 : (List.take j fs ++ m :: List.drop (j + 1) fs).length = fs.length := by rw [← e]
  simp only [mom]
  rw [e3, e1, e2, ← hw, Rat.intCast_add]
  grind
theorem set_back {n j : Nat} (x : Rat) (h : j < n) : (List.replicate n x).set j 0 = pooPl n j x := by
  refine List.ext_getElem? fun k => ?_
  rcases Nat.lt_or_ge k n with hk | hk
  · rw [pooPl_get hk]
    by_cases e : j = k
    · subst e
      rw [List.getElem?_set_self (by rw [List.length_replicate]; exact hk), if_pos rfl]
    · rw [List.getElem?_set_ne e, List.getElem?_replicate_of_lt hk, if_neg (by omega)]
  · rw [List.getElem?_eq_none_iff.mpr (by rw [List.length_set, List.length_replicate]; exact hk), List.getElem?_eq_none_iff.mpr (by rw [pooPl_len]; exact hk)]
theorem oth_nn {fs : List Man} {j : Nat} {m : Man} (hm : ∀ x ∈ fs, x.ok) (h : fs[j]? = some m) : 0 ≤ wt fs - m.hv := by
  have h1 := wt_bd (fs := dropAt fs j) fun z hz => hm z (dropAt_mem hz)
  rw [wt_drop h] at h1
  omega
/-- none where even the raft's back is not far enough -/
theorem poo_none {r : Raft} {fs : List Man} {x : Rat} {m : Man} (ht : 1 ≤ tot r fs) (ho : 0 ≤ wt fs - m.hv) (hl : 1 ≤ r.lg) (h : (m.rc : Rat) < x - (r.lg : Rat) * ((wt fs - m.hv : Int) : Rat) / (tot r fs : Rat)) : poo r fs x m = none := by
  have hT : (0 : Rat) < (tot r fs : Rat) := rat_pos_of ht
  have hO : (0 : Rat) ≤ ((wt fs - m.hv : Int) : Rat) := Rat.intCast_nonneg.mpr ho
  have hL : (0 : Rat) < (r.lg : Rat) := rat_pos_of hl
  have h1 : (r.lg : Rat) * ((wt fs - m.hv : Int) : Rat) / (tot r fs : Rat) < x - (m.rc : Rat) := by grind
  have h2 := (Rat.div_lt_iff hT).mp h1
  have h3 : (0 : Rat) ≤ (r.lg : Rat) * ((wt fs - m.hv : Int) : Rat) := Rat.mul_nonneg (Rat.le_of_lt hL) hO
  have h4 : (0 : Rat) < x - (m.rc : Rat) := by
    have : (0 : Rat) < (x - (m.rc : Rat)) * (tot r fs : Rat) := by grind
    exact (Rat.mul_pos_iff_of_pos_right hT).mp this
  unfold poo
  rw [if_neg (by grind)]
  by_cases e : wt fs - m.hv = 0
  · rw [if_pos e]
  · have hO' : (0 : Rat) < ((wt fs - m.hv : Int) : Rat) := Rat.intCast_pos.mpr (by omega)
    rw [if_neg e, if_neg]
    intro z
    exact Rat.not_lt.mpr z ((Rat.lt_div_iff hO').mpr h2)
theorem poo_some {r : Raft} {fs : List Man} {x : Rat} {m : Man} (ht : 1 ≤ tot r fs) (ho : 0 ≤ wt fs - m.hv) (hl : 1 ≤ r.lg) (h : ¬ (m.rc : Rat) < x - (r.lg : Rat) * ((wt fs - m.hv : Int) : Rat) / (tot r fs : Rat)) :
    ∃ p, poo r fs x m = some p := by
  have hT : (0 : Rat) < (tot r fs : Rat) := rat_pos_of ht
  unfold poo
  by_cases e : x - (m.rc : Rat) ≤ 0
  · exact ⟨0, by rw [if_pos e]⟩
  · rw [if_neg e]
    have h1 : ¬ (r.lg : Rat) * ((wt fs - m.hv : Int) : Rat) / (tot r fs : Rat) < x - (m.rc : Rat) := by grind
    have h2 : ¬ (r.lg : Rat) * ((wt fs - m.hv : Int) : Rat) < (x - (m.rc : Rat)) * (tot r fs : Rat) := fun z => h1 ((Rat.div_lt_iff hT).mpr z)
    have h3 : (0 : Rat) < (x - (m.rc : Rat)) * (tot r fs : Rat) := Rat.mul_pos (by grind) hT
    have e2 : ¬ wt fs - m.hv = 0 := fun z => by
      rw [z] at h2
      apply h2
      rw [Rat.intCast_zero, Rat.mul_zero]; exact h3
    have hO' : (0 : Rat) < ((wt fs - m.hv : Int) : Rat) := Rat.intCast_pos.mpr (by omega)
    rw [if_neg e2]
    refine ⟨_, if_pos ?_⟩
    exact Rat.not_lt.mp fun z => h2 ((Rat.lt_div_iff hO').mp z)
/-- what comes of such a place -/
theorem poo_is {r : Raft} {fs : List Man} {x p : Rat} {m : Man} (ht : 1 ≤ tot r fs) (ho : 0 ≤ wt fs - m.hv) (hl : 1 ≤ r.lg) (h : poo r fs x m = some p) :
    0 ≤ p ∧ p ≤ (r.lg : Rat) ∧ x - p * ((wt fs - m.hv : Int) : Rat) / (tot r fs : Rat) = (if (m.rc : Rat) < x then (m.rc : Rat) else x) ∧ (p = 0 ∨ p = (x - (m.rc : Rat)) * (tot r fs : Rat) / ((wt fs - m.hv : Int) : Rat)) := by
  have hT : (0 : Rat) < (tot r fs : Rat) := rat_pos_of ht
  have hL : (0 : Rat) < (r.lg : Rat) := rat_pos_of hl
  unfold poo at h
  by_cases e : x - (m.rc : Rat) ≤ 0
  · rw [if_pos e] at h
    have h := (Option.some.inj h).symm
    subst h
    refine ⟨Rat.le_refl, Rat.le_of_lt hL, ?_, .inl rfl⟩
    rw [if_neg (by grind), Rat.zero_mul]
    grind
  · rw [if_neg e] at h
    by_cases e2 : wt fs - m.hv = 0
    · rw [if_pos e2] at h; cases h
    · rw [if_neg e2] at h
      have hO' : (0 : Rat) < ((wt fs - m.hv : Int) : Rat) := Rat.intCast_pos.mpr (by omega)
      split at h
      · rename_i hle
        have h := (Option.some.inj h).symm
        subst h
        have hpos : (0 : Rat) < (x - (m.rc : Rat)) * (tot r fs : Rat) := Rat.mul_pos (by grind) hT
        refine ⟨?_, hle, ?_, .inr rfl⟩
        · have := div_mono (Rat.le_of_lt hpos) hO'
          have z : (0 : Rat) / ((wt fs - m.hv : Int) : Rat) = 0 := by grind
          rw [z] at this; exact this
        · rw [if_pos (by grind), Rat.div_mul_cancel (Rat.ne_of_gt hO'), Rat.mul_div_cancel (Rat.ne_of_gt hT)]
          grind
      · cases h
theorem poo_sz {r : Raft} {fs : List Man} {x p : Rat} {m : Man} (hr : r.ok) (hm : Men fs) (hmo : m.ok) (ho : 0 ≤ wt fs - m.hv) (hx : Sz 180 x) (h : poo r fs x m = some p) : Sz 240 p := by
  have ht := tot_bd hr hm
  obtain ⟨_, _, _, h4⟩ := poo_is ht.1 ho hr.1 h
  rcases h4 with rfl | rfl
  · exact sz_zero (by omega)
  · by_cases e2 : wt fs - m.hv = 0
    · rw [e2]
      have : (x - (m.rc : Rat)) * (tot r fs : Rat) / ((0 : Int) : Rat) = 0 := by rw [Rat.intCast_zero]; grind
      rw [this]; exact sz_zero (by omega)
    · have hw := hm.wt
      have h8 : Sz 8 (m.rc : Rat) := Sz.int (by have := hmo.2.2.1; have := hmo.2.2.2; omega) (by omega)
      have := hmo.1
      exact (((hx.sub h8).mul (Sz.int (n := 12) (by omega) (by omega))).div (m := 12) (by omega) (by omega) (by omega)).mono (by omega)
theorem drv_poo {r : Raft} {fs : List Man} {j : Nat} {m : Man} (h : fs[j]? = some m) (p : Rat) : drv r fs (pooPl fs.length j p) = p * ((wt fs - m.hv : Int) : Rat) / (tot r fs : Rat) := by unfold drv; rw [mom_poo h]
theorem pooPl_mem {n j : Nat} {p q : Rat} (h : q ∈ pooPl n j p) : q = 0 ∨ q = p := by
  unfold pooPl at h
  obtain ⟨k, _, rfl⟩ := List.mem_map.mp h
  split
  · exact .inl rfl
  · exact .inr rfl
theorem isAt_of {fs : List Man} {j : Nat} {m : Man} (hn : (fs.map (·.nm)).Nodup) (h : fs[j]? = some m) : ixOf fs m.nm = some j := by
  unfold ixOf
  rw [List.findIdx?_eq_some_iff_getElem]
  have hj := lt_get h
  have hm : fs[j] = m := Option.some.inj ((List.getElem?_eq_getElem hj).symm.trans h)
  refine ⟨hj, by rw [hm]; exact decide_eq_true rfl, fun k hk => ?_⟩
  have hk' : k < fs.length := by omega
  have : fs[k].nm ≠ m.nm := fun z => by
    have h1 : (fs.map (·.nm))[k]'(by rw [List.length_map]; exact hk') = (fs.map (·.nm))[j]'(by rw [List.length_map]; exact hj) := by rw [List.getElem_map, List.getElem_map, hm]; exact z
    have := (List.getElem_inj hn).mp h1
    omega
  rw [decide_eq_false this]; simp
theorem ix_before {fs : List Man} {j : Nat} {s : Str} (h : ixOf fs s = some j) : ∀ m t, m < j → (fs.map (·.nm))[m]? = some t → t ≠ s := fun k t hk ht => by
  unfold ixOf at h
  rw [List.findIdx?_eq_some_iff_getElem] at h
  obtain ⟨hj, _, hb⟩ := h
  obtain ⟨m, hm, rfl⟩ := map_get ht
  have hk' := lt_get hm
  have := hb k hk
  have e : fs[k] = m := Option.some.inj ((List.getElem?_eq_getElem hk').symm.trans hm)
  rw [e] at this
  simpa using this
theorem pls_ok {r : Raft} {qs : List Rat} {n : Nat} (hl : qs.length = n) (h : ∀ q ∈ qs, 0 ≤ q ∧ q ≤ (r.lg : Rat)) : plsB r n (plD qs) = true := by
  show (decide (((qs.map rD).length : Int) = (n : Int)) && (qs.map rD).all (plcB r)) = true
  rw [List.length_map, hl, decide_eq_true rfl, Bool.true_and, List.all_eq_true]
  intro d hd
  obtain ⟨q, hq, rfl⟩ := List.mem_map.mp hd
  rw [plc_rD (h q hq).1]
  exact decide_eq_true (h q hq).2
theorem smp_pl {qs : List Rat} (hl : qs.length ≤ 900) (h : ∀ q ∈ qs, Sz 3000 q) : SmP (plD qs) := by
  refine ⟨by rw [List.length_map]; exact hl, fun x hx => ?_⟩
  obtain ⟨q, hq, e⟩ := List.mem_map.mp hx
  rw [← rD_inj e]; exact h q hq
section
variable {X : Cx} {env : LE} {μ : MU} {a a' b c : Expr} {p2 p3 p4 p5 pos : Pos}
/-- t[:at] + t[at + 1:] -/
theorem ev_dropT {ds : List Dt} {j : Nat} (h1 : Ev X a env μ μ (.d (.tuple ds))) (h2 : Ev X b env μ μ (.d (.int (j : Int)))) (h3 : Ev X a' env μ μ (.d (.tuple ds))) (h4 : Ev X c env μ μ (.d (.int ((j : Int) + 1)))) (hj : j < ds.length) (hl : ds.length ≤ 400) :
    Ev X (.BinOp (.Subscript a (.Slice none (some b) none p2) p3) .Add (.Subscript a' (.Slice (some c) none none p4) p5) pos) env μ μ (.d (.tuple (dropAt ds j))) := by
  have e : ((j : Int) + 1) = ((j + 1 : Nat) : Int) := by omega
  refine ev_is (ev_addT (ev_slT h1 eo_none (eo_some h2)) (ev_slT h3 (eo_some h4) eo_none) ?_) ?_
  · rw [cut_to _ (by omega), e, cut_from _ (by omega), List.length_take, List.length_drop]
    exact ln (by omega)
  · rw [cut_to _ (by omega), e, cut_from _ (by omega), Int.toNat_natCast]; rfl
end
theorem get_mid (M : MU) (x : Option Cl) (ν : MU) : (M ++ x :: ν)[M.length]? = some x := by rw [List.getElem?_append_right (Nat.le_refl _), Nat.sub_self]; rfl
theorem set_mid (M : MU) (x y : Option Cl) (ν : MU) : (M ++ x :: ν).set M.length y = M ++ y :: ν := by rw [List.set_append_right _ _ (Nat.le_refl _), Nat.sub_self]; rfl
theorem c_eqS {X : Cx} {μ : MU} {x y : DE} {d : Dt} (hu : X.A.units + 64 < cLine) (e1 : Dv μ x d) (e2 : Dv μ y d) (h : SeqAt.shaped d = true) : CmpD X .Eq x y μ true := by
  have := c_eq hu e1 e2 h h
  rw [eqv_same h] at this
  exact this
end Rw
/-! RwA: texts, truths among numbers, unpackings, lists joined, isinstance of two. -/
namespace Rw
open PySem PySem.Spec PyProof.Rows L2
section
variable {X : Cx} {env env1 : LE} {μ μ1 μ2 μ3 μ4 : MU} {x y z w : DE} {a b c e o tg iter elt : Expr} {es : List Expr} {p pos p1 p2 p3 pT : Pos} {elts : List Expr} {kk : Nat} {D : DN} {i j : Int}
/-! ### texts -/
def signs (t : Str) : List Dt := t.cps.toList.map fun c => .str ⟨#[c]⟩
theorem signs_len (t : Str) : (signs t).length = t.cps.size := by unfold signs; rw [List.length_map, Array.length_toList]
theorem it_str {t : Str} (h : Ev X iter env μ μ1 (.d (.str t))) : Itb X tg iter env μ μ1 (signs t) := .mk fun σ G H A E S R q pins s I =>
  (pi_str pu).run pins s σ H R I (h.run σ G H A E S _ fun v G1 H1 A1 e1 m1 S1 r1 => by
    refine ⟨t, r1.str, q _ G1 H1 A1 e1 m1 S1 ⟨_, _, by rw [signs_len]; exact walk_str, fun _ _ => True.intro, fun i H2 v H3 d y e => ?_⟩⟩
    obtain ⟨y1, c, y2, rfl⟩ := y
    refine .inl ⟨y1, ?_⟩
    unfold signs at e
    rw [List.getElem?_map, Array.getElem?_toList, y2] at e
    rw [← Option.some.inj e]
    exact .str _)
theorem rc_lenS {t : Str} (h : t.length ≤ 1000000) : RC X.K (fun xs H Q => ∃ z, xs = [.str z] ∧ z.length ≤ sizeLine ∧ Q (.int z.length) H) [.d (.str t)] μ μ (.d (.int t.length)) := fun G H A vs S r Q q => by
  obtain ⟨v, rfl, r1⟩ := Rp.one r
  exact ⟨t, by rw [r1.str], Nat.le_trans h (by decide), q.now S (.d (.int _))⟩
theorem c_notin {n : Nat} {t : Str} : CmpD X .NotIn (.d (.str ⟨#[n]⟩)) (.d (.str t)) μ (!decide (n ∈ t.cps.toList)) := ⟨_, op_notIn_sign, fun G H A v w S r1 r2 Q q => ⟨_, _, r1.str, r2.str, q.now S (.d (.bl _))⟩⟩
theorem ev_slS {t : Str} {lo hi : Option Expr} {l h : Option Int} (ha : Ev X a env μ μ1 (.d (.str t))) (h1 : EvO X lo env μ1 μ2 l) (h2 : EvO X hi env μ2 μ3 h) (hz : t.length ≤ 1000000) : Ev X (.Subscript a (.Slice lo hi none p2) pos) env μ μ3 (.d (.str (Txt.slice t l h))) := .mk fun σ G H A E S Q q pins s I =>
  (pe_slice C8.sl_txt pu pO pO).run pins s σ H Q I (ha.run σ G H A E S _ fun v G1 H1 A1 e1 m1 S1 r1 => h1.run σ G1 H1 A1 (E.mv e1 m1) S1 _ fun G2 H2 A2 e2 m2 S2 => h2.run σ G2 H2 A2 ((E.mv e1 m1).mv e2 m2) S2 _ fun G3 H3 A3 e3 m3 S3 =>
    ⟨t, r1.str, Nat.le_trans hz (by decide), (q.mono ((e1.trans e2).trans e3) ((m1.trans m2).trans m3)).now S3 (.d (.str _))⟩)
theorem ev_upper {t : Str} {ap : Pos} (ha : Ev X a env μ μ1 (.d (.str t))) (hz : t.length ≤ 1000000) (hbase : attributeBase a "upper" X.env (eval a X.env) = eval a X.env := by rfl) (hline : (ap.endLine == pos.line) = true := by rfl) :
    Ev X (.Call (.Attribute a "upper" ap) [] [] pos) env μ μ1 (.d (.str (Txt.upper t))) := .mk fun σ G H A E S Q q pins s I =>
  (pe_upper pu hbase hline).run pins s σ H Q I (ha.run σ G H A E S _ fun v G1 H1 A1 e1 m1 S1 r1 => ⟨⟨t, r1.str⟩, t, r1.str, rfl, by omega, (q.mono e1 m1).now S1 (.d (.str _))⟩)
theorem rc_strI (h : i.natAbs.log2 < 1920) : RC X.K (fun xs H Q => ∃ i, xs = [.int i] ∧ i.natAbs.log2 < 1920 ∧ Q (.str (toString i)) H) [.d (.int i)] μ μ (.d (.str (toString i))) := fun G H A vs S r Q q => by
  obtain ⟨v, rfl, r1⟩ := Rp.one r
  exact ⟨i, by rw [r1.int], h, q.now S (.d (.str _))⟩
/-! ### truths among numbers -/
def bI (k : Bool) : Int := if k = true then 1 else 0
theorem op_addB : OpR X (binaryOp .Add) (fun x y H Q => ∃ k j, x = .bl k ∧ y = .int j ∧ Q (.int (bI k + j)) H) := by
  intro pins s σ H x y v u Q I rx ry h
  obtain ⟨k, j, rfl, rfl, q⟩ := h
  cases rx
  obtain ⟨t, rfl⟩ := ry
  exact IntBool.add_bool_int ⟨.int (bI k + j), H, I.tok _, ⟨_, rfl⟩, q⟩
theorem op_subB : OpR X (binaryOp .Sub) (fun x y H Q => ∃ k j, x = .bl k ∧ y = .int j ∧ Q (.int (bI k - j)) H) := by
  intro pins s σ H x y v u Q I rx ry h
  obtain ⟨k, j, rfl, rfl, q⟩ := h
  cases rx
  obtain ⟨t, rfl⟩ := ry
  exact IntBool.sub_bool_int ⟨.int (bI k - j), H, I.tok _, ⟨_, rfl⟩, q⟩
theorem gives_negB (k : Bool) : Gives (Builtin.«int.__neg__» ⟨[.bool k], []⟩) (.int (-bI k)) := by
  cases k <;> exact .of_eq rfl
theorem un_negB : UnR X (unaryOp .USub) (fun x H Q => ∃ k, x = .bl k ∧ Q (.int (-bI k)) H) := by
  intro pins s σ H x v Q I rx h
  obtain ⟨k, rfl, q⟩ := h
  cases rx
  exact unaryOp_gives (op := .USub) (T := "bool") rfl rfl F.slot_bool_neg F.entry_int_neg (F.args_int_neg_1 _) (gives_negB k) ⟨.int (-bI k), H, I.tok _, ⟨_, rfl⟩, q⟩
theorem ev_addB {k : Bool} (ha : Ev X a env μ μ1 (.d (.bool k))) (hb : Ev X b env μ1 μ2 (.d (.int j))) : Ev X (.BinOp a .Add b pos) env μ μ2 (.d (.int (bI k + j))) := ev_op op_addB ha hb fun G H A v w S r1 r2 Q q => ⟨k, j, r1.bl, r2.int, q.now S (.d (.int _))⟩
theorem ev_subB {k : Bool} (ha : Ev X a env μ μ1 (.d (.bool k))) (hb : Ev X b env μ1 μ2 (.d (.int j))) : Ev X (.BinOp a .Sub b pos) env μ μ2 (.d (.int (bI k - j))) := ev_op op_subB ha hb fun G H A v w S r1 r2 Q q => ⟨k, j, r1.bl, r2.int, q.now S (.d (.int _))⟩
theorem ev_negB {k : Bool} (ha : Ev X a env μ μ1 (.d (.bool k))) : Ev X (.UnaryOp .USub a pos) env μ μ1 (.d (.int (-bI k))) := ev_un un_negB ha fun G H A v S r Q q => ⟨k, r.bl, q.now S (.d (.int _))⟩
def boolT (k : Bool) : Str := if k then "True" else "False"
theorem str_bool1 {prog : Program} {w : World} {A : Around} {E : Value → Shared → Prop} {s : Shared} {k : Bool} {Q : Value → Shared → Prop} (h : Q (.str (boolT k) s.toks) { s with toks := s.toks + 1 }) : wpAny (model prog w) A (call (.type "str") [.bool k]) Q E s := by
  refine callType_new F.called_str (by decide) (F.typeCall_str_1 _) (F.newCall_str_1 _) (fun ob => F.args_object_init_2 ob _) F.entry_str_new (meets_str_new (v := .bool k) (S := fun _ R s => R (.ok (.ret (.str (boolT k) s.toks))) { s with toks := s.toks + 1 }) fun _ _ _ _ s hq => ?_) ⟨typeIs_str _ _ _, h⟩
  refine wpAny_strOf_gives (T := "bool") rfl rfl F.slot_bool_str F.slot_bool_repr F.entry_bool_repr (F.args_bool_repr_1 _) (gives_bool_repr k) ?_ (hsz := by cases k <;> decide)
  cases k <;> exact hq
theorem call_strB : CallR X (.type "str") (fun xs H Q => ∃ k, xs = [.bl k] ∧ Q (.str (boolT k)) H) := by
  intro pins s σ H xs us Q I r h
  obtain ⟨k, rfl, q⟩ := h
  cases r with
  | cons r1 r2 =>
    cases r2
    cases r1
    exact str_bool1 ⟨.str _, H, I.tok _, ⟨_, rfl⟩, q⟩
theorem rc_strB {k : Bool} : RC X.K (fun xs H Q => ∃ k, xs = [.bl k] ∧ Q (.str (boolT k)) H) [.d (.bool k)] μ μ (.d (.str (boolT k))) := fun G H A vs S r Q q => by
  obtain ⟨v, rfl, r1⟩ := Rp.one r
  exact ⟨k, by rw [r1.bl], q.now S (.d (.str _))⟩
/-! ### lists joined, copied -/
theorem ev_cat {k l : Nat} {us ws : List Dt} (ha : Ev X a env μ μ1 (.c k)) (hb : Ev X b env μ1 μ2 (.c l)) (hk : μ2[k]? = some (some (Cl.lst us))) (hl : μ2[l]? = some (some (Cl.lst ws))) (hc : us.length + ws.length ≤ 1000) : Ev X (.BinOp a .Add b pos) env μ μ2 (.d (.list (us ++ ws))) := by
  refine ev_op op_cat ha hb fun G H A v w S r1 r2 Q q => ?_
  cases r1 with
  | @c _ pa h1 =>
    cases r2 with
    | @c _ pb h2 =>
      obtain ⟨_, xs, hx, dx⟩ := S.cell k pa us h1 hk
      obtain ⟨_, ys, hy, dy⟩ := S.cell l pb ws h2 hl
      exact ⟨pa, pb, xs, ys, rfl, rfl, hx, hy, by rw [dpa_len dx, dpa_len dy]; exact ln hc, fun p hp => q.newL S hp (dpa_app dx dy)⟩
theorem rc_listC {k : Bool} {ds : List Dt} : RC X.K (fun xs H Q => ∃ p ys, xs = [.ref p] ∧ (SqL X.K H p ys ∨ SqT X.K H p ys) ∧ ∀ l, H l = none → Q (.ref l) (upd H l (.lst ys))) [.d (seqD k ds)] μ (μ ++ [some (Cl.lst ds)]) (.c μ.length) := fun G H A vs S r Q q => by
  obtain ⟨v, rfl, r1⟩ := Rp.one r
  cases k with
  | true =>
    obtain ⟨p, xs, rfl, t, dd⟩ := Rp.lst (ds := ds) S r1 rfl
    exact ⟨p, xs, rfl, .inl t, fun l hl => q.newC S hl dd⟩
  | false =>
    obtain ⟨p, xs, rfl, t, dd⟩ := Rp.tup (ds := ds) S r1
    exact ⟨p, xs, rfl, .inr t, fun l hl => q.newC S hl dd⟩
/-! ### isinstance of two classes -/
theorem ev_isi2 {d : Dt} {T U : String} {nm nm2 : Str} {r r2 : Bool} (h : Ev X a env μ μ1 x) (hx : Dv μ1 x d) (hr : kitB (tyN d) T = some r) (hr2 : kitB (tyN d) U = some r2) (hg : Gl X "isinstance") (hm : X.mg "isinstance" = none) (hgT : Gl X nm) (hmT : X.mg nm = none) (hv : bootBuiltins nm = some (.type T)) (hgU : Gl X nm2) (hmU : X.mg nm2 = none) (hvU : bootBuiltins nm2 = some (.type U))
    (hn : nm ≠ "__name__" := by decide) (hdb : (nm == ("__debug__" : Str)) = false := by decide) (hn2 : nm2 ≠ "__name__" := by decide) (hdb2 : (nm2 == ("__debug__" : Str)) = false := by decide)
    (hi2 : starEach [Expr.Name nm2 p2] X.env = [(false, eval (.Name nm2 p2) X.env)] := by rfl) (hi1 : starEach [Expr.Name nm p1, .Name nm2 p2] X.env = (false, eval (.Name nm p1) X.env) :: starEach [.Name nm2 p2] X.env := by rfl)
    (hs1 : starEach [Expr.Tuple [.Name nm p1, .Name nm2 p2] kk pT] X.env = [(false, eval (.Tuple [.Name nm p1, .Name nm2 p2] kk pT) X.env)] := by rfl) (hs : starEach [a, .Tuple [.Name nm p1, .Name nm2 p2] kk pT] X.env = (false, eval a X.env) :: starEach [.Tuple [.Name nm p1, .Name nm2 p2] kk pT] X.env := by rfl)
    (hpl : (backTo pos (starEach [Expr.Tuple [.Name nm p1, .Name nm2 p2] kk pT] X.env)).any (·.1) = false := by rfl) :
    Ev X (.Call (.Name "isinstance" p) [a, .Tuple [.Name nm p1, .Name nm2 p2] kk pT] [] pos) env μ μ1 (.d (.bool (r || r2))) := .mk fun σ G H A E S Q q pins s I =>
  (pe_callB call_isiT hg hm boot_isinstance (pa_cons pu (pa_cons (pe_tup (pa_cons (pe_bltn hgT hmT hv (v := .ty T) rfl hn hdb) (pa_cons (pe_bltn hgU hmU hvU (v := .ty U) rfl hn2 hdb2) pa_nil hi2) hi1)) pa_nil hs1) hs) (by decide) (by decide) hs hpl).run pins s σ H Q I (h.run σ G H A E S _ fun v G1 H1 A1 e1 m1 S1 r1 => by
    refine ⟨by show 2 ≤ sizeLine; decide, fun tp ht => ?_⟩
    have nA : tp ∉ A1 := fun z => by
      obtain ⟨k, hk⟩ := List.getElem?_of_mem z
      exact S1.liv k tp hk ht
    have nG : G1 tp = none := S1.ex.free ht
    have S2 : Sit X.K G1 (upd H1 tp (.tup [.ty T, .ty U])) A1 μ1 := S1.side nA nG
    have m2 : Mv G1 A1 H1 G1 A1 (upd H1 tp (.tup [.ty T, .ty U])) := (Mv.refl G1 A1 H1).side ht
    refine ⟨v, tp, [.ty T, .ty U], .type (tyN d), [.type T, .type U], r || r2, rfl, upd_same, .cons (.ty T) (.cons (.ty U) .nil), dp_ty (r1.dp S2 hx), ?_, q _ G1 _ A1 e1 (m1.trans m2) S2 (.d (.bl _))⟩
    refine kitAny_cons (kit_ty hr) (fun e => ?_) (fun e => by rw [e]; rfl)
    refine kitAny_cons (kit_ty hr2) (fun e2 => ?_) (fun e2 => by rw [e2, Bool.or_true])
    rw [e, e2]; exact kitAny_nil)
/-! ### unpackings -/
theorem b1_par3 (k l n : Nat) {nx ny nz : Str} {px py pz pt pt2 : Pos} {kt k2 : Nat} (ha : EvA X [a, b, c] env μ μ1 [x, y, z]) (hn : D.nx (((env.set k (some x)).set l (some y)).set n (some z)) μ1) (hc : X.calm = true) (hN : X.N.Nodup) (hi : X.N[k]? = some nx) (hj : X.N[l]? = some ny) (hl : X.N[n]? = some nz) (hij : k ≠ l) (hil : k ≠ n) (hjl : l ≠ n)
    (hx : X.env.scope.names.lookup nx = some .local) (hy : X.env.scope.names.lookup ny = some .local) (hz : X.env.scope.names.lookup nz = some .local)
    (hw : swappedStores [.Tuple [.Name nx px, .Name ny py, .Name nz pz] kt pt] (.Tuple [a, b, c] k2 pt2) X.env = pure (some [nx, ny, nz]) := by rfl) (hs : swapsWithSole [.Tuple [.Name nx px, .Name ny py, .Name nz pz] kt pt] (.Tuple [a, b, c] k2 pt2) pos.line X.env = pure false := by rfl) :
    B1 X (.Assign [.Tuple [.Name nx px, .Name ny py, .Name nz pz] kt pt] (.Tuple [a, b, c] k2 pt2) pos) env μ D := .mk fun σ G H A E S N q pins s I =>
  (ps_par3 hc hN hi hj hl hij hil hjl hx hy hz pA hw hs).run pins s σ H N I (ha.run σ G H A E S _ fun vs G1 H1 A1 e1 m1 S1 r1 => by
    cases r1 with
    | cons h1 r1 =>
      cases r1 with
      | cons h2 r1 =>
        cases r1 with
        | cons h3 r1 =>
          cases r1
          exact ⟨_, _, _, rfl, q.nx _ μ1 _ G1 H1 A1 hn e1 m1 ((((E.mv e1 m1).set h1 k).set h2 l).set h3 n) S1⟩)
theorem tg_lst {ds : List Dt} {j : Nat} {ks : List Nat} (hc : X.calm = true) (h : TgL X es ds env μ env1 ks) (hn : (assignEach es X.env).length = ds.length := by rfl) (hst : (assignEach es X.env).findIdx? (·.1) = none := by rfl) : Tg X (.Tuple es j pos) (.d (.list ds)) env μ env1 ks := by
  obtain ⟨g, hg, h⟩ := h
  refine .mk fun σ G H A v E S r Q q pins s u I ru => ?_
  obtain ⟨pa, xs, rfl, t, dd⟩ := Rp.lst (ds := ds) S r rfl
  exact (pg_lst (n := ds.length) hc hg hn hst).run pins s σ H _ u Q I ru ⟨pa, xs, rfl, t, dpa_len dd, h σ G H A xs E S dd Q q⟩
/-- o[i], o2[j] = .., of one list of ours -/
theorem b1_swap {k m n : Nat} {u v : Int} {d f : Dt} {ds : List Dt} {o2 ti tj : Expr} {q1 q2 pt : Pos} {kt : Nat} (hc : X.calm = true) (h : Ev X e env μ μ1 (.d (.tuple [d, f]))) (hk : μ1[k]? = some (some (Cl.lst ds))) (ho : Ev X o env μ1 μ1 (.c k)) (hi : Ev X ti env μ1 μ1 (.d (.int u))) (hu : ixN ds.length u = some m)
    (ho2 : Ev X o2 env (μ1.set k (some (Cl.lst (ds.set m d)))) (μ1.set k (some (Cl.lst (ds.set m d)))) (.c k)) (hj : Ev X tj env (μ1.set k (some (Cl.lst (ds.set m d)))) (μ1.set k (some (Cl.lst (ds.set m d)))) (.d (.int v))) (hv : ixN ds.length v = some n) (hn : D.nx env (μ1.set k (some (Cl.lst ((ds.set m d).set n f)))))
    (hs : swapsWithSole [.Tuple [.Subscript o ti q1, .Subscript o2 tj q2] kt pt] e pos.line X.env = pure false := by rfl) (hw : swappedStores [.Tuple [.Subscript o ti q1, .Subscript o2 tj q2] kt pt] e X.env = pure none := by rfl)
    (h1 : (assignEach [.Tuple [.Subscript o ti q1, .Subscript o2 tj q2] kt pt] X.env).map (·.2) = [assign (.Tuple [.Subscript o ti q1, .Subscript o2 tj q2] kt pt) X.env] := by rfl)
    (g1 : (assignEach [.Subscript o ti q1, .Subscript o2 tj q2] X.env).map (·.2) = assign (.Subscript o ti q1) X.env :: (assignEach [.Subscript o2 tj q2] X.env).map (·.2) := by rfl) (g2 : (assignEach [.Subscript o2 tj q2] X.env).map (·.2) = assign (.Subscript o2 tj q2) X.env :: (assignEach [] X.env).map (·.2) := by rfl)
    (hl : (assignEach [.Subscript o ti q1, .Subscript o2 tj q2] X.env).length = 2 := by rfl) (hst : (assignEach [.Subscript o ti q1, .Subscript o2 tj q2] X.env).findIdx? (·.1) = none := by rfl)
    (a1 : ∀ v, assign (.Subscript o ti q1) X.env v = (do let ov ← holding [v] (eval o X.env); let iv ← holding [v, ov] (eval ti X.env); standAt q1; holding [v, ov, iv] (setItem ov iv v); release [v, ov, iv] []) := by intro _; rfl)
    (a2 : ∀ v, assign (.Subscript o2 tj q2) X.env v = (do let ov ← holding [v] (eval o2 X.env); let iv ← holding [v, ov] (eval tj X.env); standAt q2; holding [v, ov, iv] (setItem ov iv v); release [v, ov, iv] []) := by intro _; rfl) :
    B1 X (.Assign [.Tuple [.Subscript o ti q1, .Subscript o2 tj q2] kt pt] e pos) env μ D := .mk fun σ G H A E S N q pins s I =>
  (ps_asg pu (pg_tup (n := 2) hc (pgs_cons (pg_sub pu pu set_list a1) (pgs_cons (pg_sub pu pu set_list a2) pgs_nil g2) g1) hl hst) hs hw h1).run pins s σ H N I (h.run σ G H A E S _ fun w G1 H1 A1 e1 m1 S1 r1 => by
    obtain ⟨tp, xs, rfl, tt, dd⟩ := r1.tup S1
    cases dd with
    | @cons v1 _ _ _ d1 dd =>
      cases dd with
      | @cons v2 _ _ _ d2 dd =>
        cases dd
        have E1 := E.mv e1 m1
        refine ⟨tp, [v1, v2], rfl, tt, rfl, v1, [v2], rfl, ho.run σ G1 H1 A1 E1 S1 _ fun ov G2 H2 A2 e2 m2 S2 r2 => hi.run σ G2 H2 A2 (E1.mv e2 m2) S2 _ fun iv G3 H3 A3 e3 m3 S3 r3 => ?_⟩
        have E3 := (E1.mv e2 m2).mv e3 m3
        cases r2.mv e3 m3 with
        | @c _ pa hA =>
          obtain ⟨g0, ys, hy, dy⟩ := S3.cell k pa ds hA hk
          have S4 := S3.put hA hk (dpa_set m dy (dp_mono (e2.trans e3) d1))
          have m4 : Mv G3 A3 H3 G3 A3 (upd H3 pa (.lst (ys.set m v1))) := Mv.put (List.mem_of_getElem? hA)
          refine ⟨pa, ys, u, m, rfl, r3.int, hy, by rw [dpa_len dy]; exact hu, v2, [], rfl, ho2.run σ G3 _ A3 E3 S4 _ fun ow G5 H5 A5 e5 m5 S5 r5 => hj.run σ G5 H5 A5 (E3.mv e5 m5) S5 _ fun iw G6 H6 A6 e6 m6 S6 r6 => ?_⟩
          have E6 := (E3.mv e5 m5).mv e6 m6
          cases r5.mv e6 m6 with
          | @c _ pb hB =>
            have hk2 : (μ1.set k (some (Cl.lst (ds.set m d))))[k]? = some (some (Cl.lst (ds.set m d))) := bag_at hk
            obtain ⟨g7, zs, hz, dz⟩ := S6.cell k pb _ hB hk2
            have S7 := S6.put hB hk2 (dpa_set n dz (dp_mono ((e2.trans e3).trans (e5.trans e6)) d2))
            have m7 : Mv G6 A6 H6 G6 A6 (upd H6 pb (.lst (zs.set n v2))) := Mv.put (List.mem_of_getElem? hB)
            rw [set2] at S7
            refine ⟨pb, zs, v, n, rfl, r6.int, hz, by rw [dpa_len dz, List.length_set]; exact hv, rfl, q.nx env _ σ G6 _ A6 hn (((e1.trans e2).trans e3).trans (e5.trans e6)) ((((((m1.trans m2).trans m3).trans m4).trans m5).trans m6).trans m7) E6 S7⟩)
end
end Rw
/-! RwB: a tuple turned round. -/
namespace Rw
open PySem PySem.Spec PyProof.Rows L2
section
variable {prog : Program} {w : World} {A : Around} {E : Value → Shared → Prop} {s : Shared}
theorem places_back (n : Nat) : Builtin.Slice.slicePlaces ((n : Int) - 1) (-1) (-1) = n := by
  unfold Builtin.Slice.slicePlaces
  have h1 : ¬ ((-1 : Int) > 0) := by omega
  simp only [h1, if_false]
  split
  · rename_i h
    have e : ∀ z : Int, z / (- -1) = z := fun z => by rw [show (- -1 : Int) = 1 by decide, Int.ediv_one]
    rw [e]; omega
  · omega
theorem pick_back (xs : Array Value) : ((List.range xs.size).filterMap fun (k : Nat) => xs[(((xs.size : Int) - 1) + (k : Int) * (-1)).toNat]?).toArray = xs.toList.reverse.toArray := by
  have e : ((List.range xs.size).filterMap fun (k : Nat) => xs[(((xs.size : Int) - 1) + (k : Int) * (-1)).toNat]?) = ((List.range xs.size).map fun k => xs.size - 1 - k).filterMap (xs[·]?) := by
    rw [List.filterMap_map]
    have f : ∀ k : Nat, (((xs.size : Int) - 1) + (k : Int) * (-1)).toNat = xs.size - 1 - k := fun k => by omega
    simp only [f]; rfl
  rw [e, PySem.W.krv_range, List.filterMap_reverse, PySem.W.krv_all]
theorem applied_back {sl : Addr} {u : Tok} {n : Nat} {Q : Int × Int × Nat → Shared → Prop} (hs : s.heap.IsSliceOf sl .none .none (.int (-1) u)) (h : Q ((n : Int) - 1, -1, n) s) :
    wpAny (model prog w) A (Builtin.Slice.sliceApplied (.ref sl) (pure (n : Int))) Q E s := by
  obtain ⟨os, g1, g2, g3⟩ := id hs
  unfold Builtin.Slice.sliceApplied Builtin.Slice.sliceFields
  refine wpAny_bind (wpAny_bind (wpAny_field g1 g3 (x := .none) rfl (wpAny_bind (wpAny_field g1 g3 (x := .none) rfl (wpAny_bind (wpAny_field g1 g3 (x := .int (-1) u) rfl (wpAny_pure ?_)))))))
  refine wpAny_bind (slicePart_int ?_)
  show wpAny _ _ (if ((-1 : Int) == 0) = true then _ else _) _ _ s
  rw [if_neg (by decide)]
  refine wpAny_bind (slicePart_none (wpAny_bind (slicePart_none (wpAny_bind (wpAny_pure (wpAny_pure ?_))))))
  show Q ((n : Int) - 1, -1, Builtin.Slice.slicePlaces ((n : Int) - 1) (-1) (-1)) s
  rw [places_back]; exact h
theorem tuple_back {t sl : Addr} {items : Array Value} {u : Tok} {Q : Value → Shared → Prop} (ht : IsTup s.heap t items) (hs : s.heap.IsSliceOf sl .none .none (.int (-1) u)) (hz : items.size ≤ sizeLine)
    (h : Q (.ref s.heap.objs.size) { s with heap := s.heap.push { cls := .type "tuple", data := .seq items.toList.reverse.toArray } }) : wpAny (model prog w) A (getItem (.ref t) (.ref sl)) Q E s := by
  have fit : sizeOk (.seq items.toList.reverse.toArray) := by
    show items.toList.reverse.toArray.size ≤ sizeLine
    rw [List.size_toArray, List.length_reverse, Array.length_toList]; exact hz
  obtain ⟨os, g1, g2, g3⟩ := id hs
  have ts : s.TypeIs (.ref sl) "slice" := ⟨os, g1, g2⟩
  unfold getItem
  try with_reducible refine wpAny_holding ?_
  first | refine wpAny_bind (wpAny_pure ?_) | skip
  refine wpAny_bind (wpAny_sequenceKey ht.typeIs (by decide) ?_)
  refine wpAny_bind (wpAny_callSpecial?_slot (name := Str.ofString "__getitem__") ht.typeIs PyProof.Rows.slot_tuple_getitem (wpAny_call_entry PyProof.Rows.slot_tuple_getitem ht.typeIs entry_tuple_getitem ?_ (args_tuple_getitem _ _)))
  show wpAny _ _ (Builtin.Tuple.tupleItemsOf (.ref t) >>= _) _ _ s
  refine wpAny_bind (tupleItemsOf_ ht (wpAny_bind (wpAny_typeOf ts ?_)))
  rw [if_pos (by decide)]
  refine wpAny_bind (applied_back hs ?_)
  have hno : ¬ (((items.size : Int) - 1 == 0 && (-1 : Int) == 1 && items.size == items.size) = true) := by
    rw [show ((-1 : Int) == 1) = false by decide, Bool.and_false, Bool.false_and]; exact Bool.false_ne_true
  show wpAny _ _ (if ((items.size : Int) - 1 == 0 && (-1 : Int) == 1 && items.size == items.size) = true then _ else _) _ _ s
  rw [if_neg hno, pick_back]
  first
    | exact wpAny_bind (m := Builtin.Tuple.tupleExact _) (wpAny_newObj_type (wpAny_pure ⟨_, rfl, wpAny_pure h⟩) fit)
    | exact wpAny_bind (m := Builtin.Tuple.tupleExact _) (wpAny_newObj_type (wpAny_bind (wpAny_pure (wpAny_pure ⟨_, rfl, wpAny_pure h⟩))) fit)
    | exact wpAny_bind (wpAny_bind (m := Builtin.Tuple.tupleExact _) (wpAny_newObj_type (wpAny_pure (wpAny_pure ⟨_, rfl, wpAny_pure h⟩)) fit))
    | exact wpAny_bind (wpAny_bind (m := Builtin.Tuple.tupleExact _) (wpAny_newObj_type (wpAny_pure ⟨_, rfl, wpAny_pure h⟩) fit))
end
def tBack (K : PySem.W.Frag) (te : TE) : TE := fun σ H Q => te σ H fun x H1 => ∃ a xs, x = .ref a ∧ SqT K H1 a xs ∧ ∀ p, H1 p = none → Q (.ref p) (upd H1 p (.tup xs.reverse))
theorem pe_back {X : Cx} {e : Expr} {te : TE} {k : Nat} {p1 p2 p3 pos : Pos} (he : PE X e te) : PE X (.Subscript e (.Slice none none (some (.UnaryOp .USub (.Constant (.int 1) k p1) p2)) p3) pos) (tBack X.K te) := by
  refine ⟨fun pins s σ H Q I h => Subscript_ (thn (he.run pins s σ H _ I h) fun v s1 ⟨x, H1, I1, r1, a, xs, ex, hx, q⟩ => ?_)⟩
  subst ex
  cases r1
  have hst : PO X (some (.UnaryOp .USub (.Constant (.int 1) k p1) p2)) (tPart (tUn (rU fun i => .int (-i)) (tC (.int 1)))) := po_some (pe_un un_neg pe_int)
  refine wpAny_Slice (thn (po_none.run pins s1 σ H1 (fun o Ha => o = none ∧ Ha = H1) I1 ⟨rfl, rfl⟩) fun vl s2 ⟨l, Ha, Ia, pl, el, ea⟩ => ?_)
  subst el ea
  refine thn (po_none.run pins s2 σ Ha (fun o Hb => o = none ∧ Hb = Ha) Ia ⟨rfl, rfl⟩) fun vu s3 ⟨u, Hb, Ib, pu, eu, eb⟩ => ?_
  subst eu eb
  refine thn (hst.run pins s3 σ Hb (fun o Hc => o = some (-1) ∧ Hc = Hb) Ib ⟨1, rfl, -1, rfl, rfl, rfl⟩) fun vs s4 ⟨o, Hc, Ic, ps, eo, ec⟩ => ?_
  subst eo ec
  have I5 : Inv X pins σ Hc { s4 with heap := s4.heap.push { cls := .type "slice", data := .fields #[vl, vu, vs] } } := Ic.kept (t' := s4.toks) fun b ob q => Heap.get?_push_of_some _ q
  obtain ⟨its, r, ht, hz⟩ := I5.tuple hx
  have hlen := r.length
  cases pl
  cases pu
  cases ps
  show wpAny (model X.prog X.w) X.A (subscriptTail e (.Slice none none (some (.UnaryOp .USub (.Constant (.int 1) k p1) p2)) p3) (.ref a) (.ref s4.heap.objs.size)) (EP X pins σ Q) X.xe _
  refine tail_any (ops := [.ref a, .ref s4.heap.objs.size]) ht.typeIs (PyProof.Rows.slot_tuple_getitem.lookup) (tuple_back ht (Heap.IsSliceOf.new _ _ _ _) (by rw [List.size_toArray]; omega) ?_) (by with_unfolding_all rfl)
  refine ⟨.ref _, _, I5.laid (t' := s4.toks) (o := .tup xs.reverse) (fun b ob q => Heap.get?_push_of_some _ q) (Nat.le_refl _) ⟨by rw [List.length_reverse]; exact hz, _, r.reverse, IsTup.new _ _⟩, rfl, q _ (I5.hok.fresh (Nat.le_refl _))⟩
theorem dpa_rev {K : PySem.W.Frag} {G : Hp} : ∀ {vs : List V} {ds : List Dt}, DpAll K G vs ds → DpAll K G vs.reverse ds.reverse
  | _, _, .nil => .nil
  | _, _, .cons h hs => by
    rw [List.reverse_cons, List.reverse_cons]
    exact dpa_app (dpa_rev hs) (.cons h .nil)
theorem ev_back {X : Cx} {env : LE} {μ μ1 : MU} {a : Expr} {ds : List Dt} {k : Nat} {p1 p2 p3 pos : Pos} (ha : Ev X a env μ μ1 (.d (.tuple ds))) : Ev X (.Subscript a (.Slice none none (some (.UnaryOp .USub (.Constant (.int 1) k p1) p2)) p3) pos) env μ μ1 (.d (.tuple ds.reverse)) := .mk fun σ G H A E S Q q pins s I =>
  (pe_back pu).run pins s σ H Q I (ha.run σ G H A E S _ fun v G1 H1 A1 e1 m1 S1 r1 => by
    obtain ⟨p, xs, rfl, t, dd⟩ := r1.tup S1
    exact ⟨p, xs, rfl, t, fun pp hp => (q.mono e1 m1).newT S1 hp (dpa_rev dd)⟩)
end Rw
/-! RwS: sorted(set(names)), names a list of texts. -/
namespace Rw
open PySem PySem.Spec PyProof.Rows L2
def txt (e : Int × Value) : Str := match e.2 with
  | .str x _ => x
  | _ => ⟨#[]⟩
def TxE (w : World) (e : Int × Value) : Prop := ∃ x tk, e.2 = Value.str x tk ∧ e.1 = hashStr w x
/-- what the table of a set of texts holds -/
structure TxT (w : World) (es : Array (Int × Value)) (t : SetTable) (S : List Str) : Prop where
  el : ∀ e ∈ es.toList, TxE w e
  ls : (es.toList.map txt).Perm S
  nd : S.Nodup
  bd : es.size < scanBound
  fi : t.fits es.size = true
  ri : Ris t.place.toList
  le : w.params.followText "set-order" = true ∨ t.led = true
def TxS (w : World) (h : Heap) (a : Addr) (S : List Str) : Prop := ∃ o es ep t, h.get? a = some o ∧ o.ExactSet ∧ o.data = .set es ep t ∧ TxT w es t S
section
variable {P : Program} {w : World} {A : Around} {E : Value → Shared → Prop} {s : Shared} {a : Addr} {S : List Str}
theorem TxS.at {h h' : Heap} (R : TxS w h a S) (k : ∀ o, h.get? a = some o → h'.get? a = some o) : TxS w h' a S :=
  let ⟨o, es, ep, t, g, r⟩ := R
  ⟨o, es, ep, t, k o g, r⟩
theorem txe_el {l : List (Int × Value)} (g : ∀ e ∈ l, TxE w e) : ElemsOf (strKind P w) l := fun e he => by
  obtain ⟨x, tk, h1, h2⟩ := g e he
  refine ⟨⟨x, ?_, h2⟩, by rw [h1]; rfl⟩
  rw [h1]; exact beq_self_eq_true x
theorem txe_is {e : Int × Value} (g : TxE w e) (x : Str) : (strKind P w).is x e.2 = true ↔ txt e = x := by
  obtain ⟨y, tk, h1, _⟩ := g
  unfold txt
  rw [h1]
  show ((y == x) = true) ↔ y = x
  exact beq_iff_eq
theorem TxT.perm {es es' : Array (Int × Value)} {t t' : SetTable} (T : TxT w es t S) (p : es'.toList.Perm es.toList) (hf : t'.fits es'.size = true) (hr : Ris t'.place.toList) (hl : t'.led = t.led) : TxT w es' t' S :=
  ⟨fun e he => T.el e (p.mem_iff.mp he), (p.map txt).trans T.ls, T.nd, by
    have q := p.length_eq
    rw [Array.length_toList, Array.length_toList] at q
    rw [q]; exact T.bd, hf, hr, T.le.imp id fun z => by rw [hl]; exact z⟩
/-- what is done behind the laying of one -/
theorem tx_tail {g : Bool → Sem Unit} (hg : ∀ (b : Bool) (s₁ : Shared) (Q' : Unit → Shared → Prop), Q' () s₁ → wpAny (model P w) A (g b) Q' E s₁) {o : Obj} {es es1 : Array (Int × Value)} {ep : Nat} {t t2 : SetTable} (ho : s.heap.get? a = some o) (hx : o.ExactSet) (hd : o.data = .set es ep t)
    (T : TxT w es1 t2 S) {dm : Bool} {R : Option Bool → Shared → Prop} (hR : ∀ h', Heap.SameBut a s.heap h' → TxS w h' a S → R (some true) { s with heap := h' }) :
    wpAny (model P w) A (do
      storeSet a es1 t2
      if (!dm && t2.tooFull) = true then do g (relayAll t2 es1 (SetTable.grown es1.size)).2.2; storeSet a (relayAll t2 es1 (SetTable.grown es1.size)).1 (relayAll t2 es1 (SetTable.grown es1.size)).2.1; pure (some true) else pure (some true)) R E s := by
  refine wpAny_bind (wpAny_storeSet_of ho hd ?_ (fits_of_scanBound T.bd))
  have o1 := store_at (es' := es1) (t' := t2) ho hd
  have b1 := Heap.SameBut.update s.heap a (Obj.putSet es1 t2)
  split
  · have q1 := relayAll_perm t2 es1 (SetTable.grown es1.size)
    have q2 := relayAll_fits t2 es1 (SetTable.grown es1.size)
    have q3 := relayAll_ris t2 es1 (SetTable.grown es1.size)
    have q4 := relayAll_led t2 es1 (SetTable.grown es1.size)
    generalize relayAll t2 es1 (SetTable.grown es1.size) = Z at q1 q2 q3 q4 ⊢
    obtain ⟨es2, t3, gv⟩ := Z
    have T2 : TxT w es2 t3 S := T.perm q1 (by
      have q := q1.length_eq
      rw [Array.length_toList, Array.length_toList] at q
      first | exact q2 | (rw [q]; exact q2)) q3 q4
    refine wpAny_bind (hg _ _ _ (wpAny_bind (wpAny_storeSet_of o1 rfl ?_ (fits_of_scanBound T2.bd))))
    exact wpAny_pure (hR _ (b1.trans (Heap.SameBut.update _ a _)) ⟨_, es2, _, t3, store_at (es' := es2) (t' := t3) o1 rfl, hx, rfl, T2⟩)
  · exact wpAny_pure (hR _ b1 ⟨_, es1, _, t2, o1, hx, rfl, T⟩)
/-- one text put in -/
theorem tx_add {x : Str} {tk : Tok} {Q : Bool → Shared → Prop} (R : TxS w s.heap a S) (room : S.length + 1 < scanBound)
    (hQ : ∀ b h' S', Heap.SameBut a s.heap h' → TxS w h' a S' → (∀ y, y ∈ S' ↔ y ∈ S ∨ y = x) → S'.length ≤ S.length + 1 → Q b { s with heap := h' }) :
    wpAny (model P w) A (setAddHashed a (.str x tk) ((strKind P w).hash x)) Q E s := by
  obtain ⟨o, es, ep, t, ho, hx, hd, T⟩ := id R
  have isx : (strKind P w).is x (.str x tk) = true := beq_self_eq_true x
  have scx : (Value.str x tk).scannable = true := rfl
  have hel : ElemsOf (strKind P w) es.toList := txe_el T.el
  have hsz : es.size = S.length := by
    have q := T.ls.length_eq
    rw [List.length_map, Array.length_toList] at q; exact q
  unfold setAddHashed setAddHashedIn
  refine wpAny_holding (wpAny_bind (wpAny_setState_of ho hd T.fi ?_))
  dsimp only
  rw [byScan_of scx T.bd hel, if_pos rfl]
  unfold setAddByScan
  refine wpAny_bind (wpAny_bind (wpAny_rule (wpAny_bind (wpAny_setScan_of isx ho hd T.fi hel ?_))))
  cases hf : List.findIdx? (fun e => (strKind P w).is x e.2) es.toList with
  | some j =>
    dsimp only
    obtain ⟨hj, pj, _⟩ := List.findIdx?_eq_some_iff_getElem.mp hf
    have hin : x ∈ S := by
      rw [← T.ls.mem_iff]
      exact List.mem_map.mpr ⟨_, List.getElem_mem hj, (txe_is (P := P) (T.el _ (List.getElem_mem hj)) x).1 pj⟩
    exact wpAny_pure (wpAny_pure (hQ _ s.heap S (Heap.SameBut.refl a s.heap) R (fun y => ⟨.inl, fun z => z.elim id fun e => e ▸ hin⟩) (Nat.le_succ _)))
  | none =>
    dsimp only
    have hout : x ∉ S := fun z => by
      rw [← T.ls.mem_iff] at z
      obtain ⟨e, he, q⟩ := List.mem_map.mp z
      have c := List.findIdx?_eq_none_iff.mp hf e he
      rw [(txe_is (P := P) (T.el e he) x).2 q] at c
      cases c
    have q1 := layNew_perm t es ((strKind P w).hash x) (.str x tk)
    have q2 := layNew_fits t es ((strKind P w).hash x) (.str x tk)
    have q3 := layNew_ris t es ((strKind P w).hash x) (.str x tk) T.ri
    have q4 := layNew_led t es ((strKind P w).hash x) (.str x tk)
    generalize layNew t es ((strKind P w).hash x) (.str x tk) = Z at q1 q2 q3 q4 ⊢
    obtain ⟨es1, t1, dm, gv⟩ := Z
    dsimp only at q1 q2 q3 q4 ⊢
    rw [Array.toList_push] at q1
    have pc : es1.toList.Perm (((strKind P w).hash x, Value.str x tk) :: es.toList) := q1.trans (List.perm_append_singleton _ _)
    have n1 : es1.size = S.length + 1 := by rw [← Array.length_toList, pc.length_eq, List.length_cons, Array.length_toList, hsz]
    have T1 : ∀ t', t'.fits es1.size = true → Ris t'.place.toList → t'.led = t.led → TxT w es1 t' (x :: S) := fun t' f r l =>
      ⟨fun e he => by
        rcases List.mem_cons.mp (pc.mem_iff.mp he) with z | z
        · rw [z]; exact ⟨x, tk, rfl, rfl⟩
        · exact T.el e z, (pc.map txt).trans (T.ls.cons x), List.nodup_cons.mpr ⟨hout, T.nd⟩, by rw [n1]; exact room, f, r, T.le.imp id fun z => by rw [l]; exact z⟩
    have fin : ∀ h', Heap.SameBut a s.heap h' → TxS w h' a (x :: S) → Q true { s with heap := h' } := fun h' sb r => hQ _ h' (x :: S) sb r (fun y => by rw [List.mem_cons]; exact Or.comm) (Nat.le_refl _)
    have rl : ∀ (b : Bool) {s₁ : Shared} {Q' : Unit → Shared → Prop}, Q' () s₁ → wpAny (model P w) A (match b with | true => rule "set.scan.the-table-gave-way" | false => pure ()) Q' E s₁ := fun b s₁ Q' q => by cases b <;> first | exact wpAny_pure q | exact wpAny_rule q
    refine wpAny_bind (rl _ ?_)
    split
    · refine wpAny_bind ?_
      rw [hashByValue_scannable 8 scx]
      refine wpAny_pure (tx_tail ?_ ho hx hd (T1 _ ?_ ?_ ?_) ?_)
      · intro b s₁ Q' q; cases b <;> first | exact wpAny_pure q | exact wpAny_rule q
      · first | (split <;> first | exact q2 | exact SetTable.fits_plain_off q2) | exact q2
      · first | (split <;> exact q3) | exact q3
      · first | (split <;> exact q4) | exact q4
      · intro h' sb r; exact wpAny_pure (fin h' sb r)
    · refine wpAny_bind (wpAny_pure ?_)
      simp only [↓reduceIte]
      refine tx_tail ?_ ho hx hd (T1 _ q2 q3 q4) ?_
      · intro b s₁ Q' q; cases b <;> first | exact wpAny_pure q | exact wpAny_rule q
      · intro h' sb r; exact wpAny_pure (fin h' sb r)
end
/-- what was put in of the first i -/
structure GotS (xs : List Str) (i : Nat) (S : List Str) : Prop where
  mem : ∀ y, y ∈ S ↔ y ∈ xs.take i
  len : S.length ≤ i
section
variable {P : Program} {w : World} {A : Around} {E : Value → Shared → Prop} {s : Shared}
theorem tx_fresh {h : Heap} {a : Addr} (ho : h.get? a = some { cls := .type "set", dict := none, data := .set #[] 0 (.fresh 0 0 (!w.params.followText "set-order")) }) : TxS w h a [] :=
  ⟨_, #[], 0, _, ho, ⟨rfl, rfl, rfl⟩, rfl, fun e he => by simp at he, .nil, List.nodup_nil, by decide, rfl, List.Pairwise.nil, by
    show _ ∨ (!w.params.followText "set-order") = true
    cases w.params.followText "set-order"
    · exact .inr rfl
    · exact .inl rfl⟩
theorem tx_loop {I : Addr} {fp wr : List Addr} {G : Array GenState → Array GenState → Prop} {n : Nat} {Pv : Nat → Value → Prop} {St : Nat → Shared → Prop} {R : Result → Shared → Prop}
    (W : WalksS P w A.in1 I fp wr G n Pv St) (T : Addr) (hT : T ∉ fp) (xs : List Str) (hn : n = xs.length) (hb : xs.length + 1 < scanBound) (hval : ∀ i v, Pv i v → ∃ x t, xs[i]? = some x ∧ v = .str x t) :
    ∀ (k i : Nat) (s : Shared) (S : List Str), n - i = k → i ≤ n → St i s → TxS w s.heap T S → GotS xs i S →
      (∀ s' S', Moved (T :: wr) G s s' → TxS w s'.heap T S' → GotS xs n S' → R (.ok (.ret .none)) s') → codeAny (model P w) A (.builtin "set.update.loop" ⟨[.ref T, .ref I], []⟩) R s := by
  have hTw : T ∉ wr := fun z => hT (W.sub _ z)
  have up : ∀ b ∈ wr, b ∈ T :: wr := fun b z => List.mem_cons_of_mem _ z
  intro k
  induction k with
  | zero =>
    intro i s S hk hi hst hS g hR
    obtain rfl : i = n := by omega
    refine codeAny_builtin F.entry_set_update_loop ?_
    rw [Around.under_plainId F.plain_set_update_loop _]
    show wpAny _ A.in1 (pyNext (.ref I) >>= _) _ _ s
    refine wpAny_bind (W.done s _ _ hst fun s' m => ?_)
    exact wpAny_pure (hR s' S (m.mono up) (hS.at fun o e => m.heap T o hTw e) g)
  | succ k ih =>
    intro i s S hk hi hst hS g hR
    have hlt : i < n := by omega
    refine codeAny_builtin F.entry_set_update_loop ?_
    rw [Around.under_plainId F.plain_set_update_loop _]
    show wpAny _ A.in1 (pyNext (.ref I) >>= _) _ _ s
    refine wpAny_bind (W.item i s _ _ hlt hst fun v s' hP hst' m => ?_)
    obtain ⟨x, t, hx, rfl⟩ := hval i v hP
    have hS' : TxS w s'.heap T S := hS.at fun o e => m.heap T o hTw e
    show wpAny _ A.in1 (holding [Value.str x t] (setAdd T (.str x t)) >>= _) _ _ s'
    refine wpAny_bind (wpAny_holding ?_)
    unfold setAdd
    refine wpAny_holding (wpAny_bind ((strKind P w).pyHash (k := x) (beq_self_eq_true x) ?_))
    refine tx_add (s := { s' with toks := s'.toks + 1 }) hS' (by have := g.len; omega) fun _ h' S2 sb R2 mem2 len2 => ?_
    have g2 : GotS xs (i + 1) S2 := ⟨fun y => by
      rw [mem2 y, g.mem y, List.take_add_one, hx]
      simp [List.mem_append], by have := g.len; omega⟩
    refine wpAny_pure ⟨plainId_quiet F.plain_set_update_loop _, ih (i + 1) _ S2 (by omega) hlt (W.frame _ s' _ _ hst' (Nat.le_succ _) fun b hb o e => ?_) R2 g2 fun s'' S3 m3 R3 g3 => ?_⟩
    · rw [sb.2 b (fun z : b = T => hT (by rw [← z]; exact hb))]; exact e
    · refine hR s'' S3 (Moved.trans W.gtrans ((m.mono up).then_heap (Nat.le_succ _) fun b o hb e => ?_) m3) R3 g3
      rw [sb.2 b (fun z : b = T => hb (by rw [z]; exact List.mem_cons_self))]; exact e
abbrev set0 (w : World) : Obj := { cls := .type "set", dict := none, data := .set #[] 0 (.fresh 0 0 (!w.params.followText "set-order")) }
theorem tx_set {l : Addr} {items : Array Value} (xs : List Str) {Q : Value → Shared → Prop} (hh : A.handled = none) (hl : s.heap.IsList l items) (hit : StrsAre items.toList xs) (hb : xs.length + 1 < scanBound)
    (h : ∀ (h' : Heap) (tk : Nat) (S : List Str), TxS w h' s.heap.objs.size S → GotS xs xs.length S → (∀ b o, s.heap.get? b = some o → h'.get? b = some o) → Q (.ref s.heap.objs.size) { s with heap := h', toks := tk }) :
    wpAny (model P w) A (call (.type "set") [.ref l]) Q E s := by
  have isz : items.size = xs.length := by
    have q := hit.length
    rw [Array.length_toList] at q
    exact q
  obtain ⟨c, tl, mro⟩ := F.called_set.mro
  have made := F.called_set.made
  have sub := F.called_set.sub
  refine wpAny_call (codeAny_of_tree ?_)
  show wpAny _ _ (callAny (.type "set") _) _ _ _
  refine wpAny_pure ⟨Code.quiet_builtin _ (by decide +kernel), codeAny_builtin F.entry_type_call ?_⟩
  rw [Around.under_plain (weight_type_call_type "set" [.ref l] []) rfl]
  have n1 := F.called_set.notType
  have n2 := F.called_set.canCreate
  have n3 := F.typeCall_set_1 (.ref l)
  repeat (any_goals (first | assumption | wp_step))
  refine codeAny_mono (code_set_led1 (.ref l) (E := E) (Q₁ := fun ob s₁ => ob = .ref s.heap.objs.size ∧ s₁ = { s with heap := s.heap.push (set0 w) }) ⟨rfl, rfl⟩) fun r s₁ hr => ?_
  cases r with
  | error e => exact hr
  | ok fl =>
    cases fl with
    | ret ob =>
      obtain ⟨rfl, rfl⟩ := hr
      have gS : (s.heap.push (set0 w)).get? s.heap.objs.size = some (set0 w) := Heap.get?_push_size _ rfl
      have tS : Shared.TypeIs { s with heap := s.heap.push (set0 w) } (.ref s.heap.objs.size) "set" := ⟨_, gS, rfl⟩
      have n4 := F.called_set.init.lookup
      have n5 := F.called_set.init.bind (.ref s.heap.objs.size)
      repeat (any_goals (first | assumption | wp_step))
      refine codeAny_mono (codeAny_call_builtin (R := wants (fun r s₂ => r = .none ∧ ∃ h' tk S, s₂ = { s with heap := h', toks := tk } ∧ TxS w h' s.heap.objs.size S ∧ GotS xs xs.length S ∧ (∀ b o, s.heap.get? b = some o → h'.get? b = some o)) E) F.called_set.init.plain F.entry_set_init (check_set_init_1 tS ?_)) fun r₂ s₂ hr₂ => ?_
      · obtain ⟨ol, hol, hcl, nl, hdl⟩ := hl
        obtain ⟨oc, od, oa, os⟩ := ol
        simp only at hcl hdl
        subst hcl; subst hdl
        have hol' : (s.heap.push (set0 w)).get? l = some { cls := .type "list", dict := od, data := .seq items nl, slots := os } := Heap.get?_push_of_some _ hol
        have f1 := F.sub_list_set
        have f2 := F.sub_list_frozenset
        have f3 : (Value.type "list" == Value.type "dict") = false := by decide
        have hl1 : (s.heap.push (set0 w)).IsList l items := ⟨_, hol', rfl, nl, rfl⟩
        unfold Builtin.«set.__init__» noKeywords Builtin.Frozenset.updateFrom
        generalize hPI : pyIter = PI
        wp_walk
        subst hPI
        refine wpAny_pyIter_list hl1 (wpAny_bind (wpAny_runValue ?_))
        have ll : l < s.heap.objs.size := Heap.lt_size hol
        have h3 : A.in1.in1.in1.handled = none := by simp [hh]
        have z1 : (s.heap.push (set0 w)).objs.size = s.heap.objs.size + 1 := Heap.size_push ..
        have ne1 : l ≠ (s.heap.push (set0 w)).objs.size := by rw [z1]; exact Nat.ne_of_lt (Nat.lt_succ_of_lt ll)
        have nin : s.heap.objs.size ∉ [(s.heap.push (set0 w)).objs.size, l] := by
          rw [z1]; simp only [List.mem_cons, List.not_mem_nil, or_false, not_or]; exact ⟨Nat.ne_of_lt (Nat.lt_succ_self _), Nat.ne_of_gt ll⟩
        have hval : ∀ (i : Nat) (v : Value), items[i]? = some v → ∃ x t, xs[i]? = some x ∧ v = .str x t := fun i v hv => by
          have hv : items.toList[i]? = some v := by rw [Array.getElem?_toList]; exact hv
          obtain ⟨x, t, e⟩ := hit.all v (List.mem_of_getElem? hv)
          refine ⟨x, t, ?_, e⟩
          rw [← hit.strs, List.getElem?_map, hv, e]; rfl
        refine tx_loop ((Walks.list h3 _ l ne1 items).toS) s.heap.objs.size nin xs isz hb hval (items.size - 0) 0 _ [] (by omega) (Nat.zero_le _) ⟨⟨_, Heap.get?_push_size _ rfl, rfl, rfl⟩, (hl1.push _)⟩ (tx_fresh (Heap.get?_push_of_some _ gS)) ⟨fun y => by simp, Nat.le_refl _⟩ fun s' S m R2 g2 => ?_
        obtain ⟨h', ge, dr, tk', os'⟩ := s'
        have eg : ge = s.gens := m.gens
        have ed : dr = s.drawn := m.drawn
        have eo : os' = s.os := m.os
        subst eg; subst ed; subst eo
        rw [isz] at g2
        refine wpAny_pure (wpAny_pure ⟨rfl, h', tk', S, rfl, R2, g2, fun b o e => ?_⟩)
        have hb0 : b < s.heap.objs.size := Heap.lt_size e
        exact m.heap b o (by rw [z1]; simp only [List.mem_cons, List.not_mem_nil, or_false, not_or]; exact ⟨Nat.ne_of_lt hb0, Nat.ne_of_lt (Nat.lt_succ_of_lt hb0)⟩) (Heap.get?_push_of_some _ (Heap.get?_push_of_some _ e))
      · cases r₂ with
        | error e => exact hr₂
        | ok fl₂ =>
          cases fl₂ with
          | ret r =>
            obtain ⟨rfl, h', tk, S, rfl, R2, g2, k2⟩ := hr₂
            repeat (any_goals (first | assumption | wp_step))
            exact h _ _ _ R2 g2 k2
          | _ => exact hr₂.elim
    | _ => exact hr.elim
end
end Rw
/-! RwU: sorted(set(names)): the call, and the one list that comes. -/
namespace Rw
open PySem PySem.Spec PyProof.Rows L2
structure IsSU (xs ys : List Str) : Prop where
  nd : ys.Nodup
  mem : ∀ y, y ∈ ys ↔ y ∈ xs
  so : sortedS ys = true
theorem rising_le : ∀ {l : List Str} {p : Str}, risingS p l = true → (∀ x ∈ l, p.cps.toList ≤ x.cps.toList) ∧ l.Pairwise (fun a b => a.cps.toList ≤ b.cps.toList)
  | [], p, _ => ⟨fun x h => by simp at h, List.Pairwise.nil⟩
  | y :: r, p, h => by
    have h : (!ltCps y.cps.toList p.cps.toList && risingS y r) = true := h
    rw [Bool.and_eq_true, ltCps_eq] at h
    obtain ⟨h1, h2⟩ := rising_le (l := r) (p := y) h.2
    have h0 : p.cps.toList ≤ y.cps.toList := List.not_lt.mp (by simpa using h.1)
    refine ⟨fun x hx => ?_, List.pairwise_cons.mpr ⟨h1, h2⟩⟩
    rcases List.mem_cons.mp hx with e | hx
    · rw [e]; exact h0
    · exact List.le_trans h0 (h1 x hx)
theorem sorted_pw : ∀ {l : List Str}, sortedS l = true → l.Pairwise (fun a b => a.cps.toList ≤ b.cps.toList)
  | [], _ => List.Pairwise.nil
  | x :: r, h => by
    obtain ⟨h1, h2⟩ := rising_le (l := r) (p := x) h
    exact List.pairwise_cons.mpr ⟨h1, h2⟩
theorem IsSU.uniq {xs ys zs : List Str} (h : IsSU xs ys) (k : IsSU xs zs) : ys = zs := by
  refine List.Perm.eq_of_pairwise (le := fun a b : Str => a.cps.toList ≤ b.cps.toList) (fun a b _ _ h1 h2 => ?_) (sorted_pw h.so) (sorted_pw k.so) ((List.perm_ext_iff_of_nodup h.nd k.nd).mpr fun y => (h.mem y).trans (k.mem y).symm)
  have e : a.cps.toList = b.cps.toList := List.le_antisymm h1 h2
  cases a with
  | mk ca =>
    cases b with
    | mk cb =>
      have e : ca.toList = cb.toList := e
      rw [Array.toList_inj.mp e]
/-- the sorted list of the texts, each once -/
noncomputable def sortU (xs : List Str) : List Str := open Classical in if h : ∃ ys, IsSU xs ys then Classical.choose h else []
theorem sortU_is {xs ys : List Str} (h : IsSU xs ys) : ys = sortU xs := by
  have hx : ∃ ys, IsSU xs ys := ⟨ys, h⟩
  unfold sortU
  rw [dif_pos hx]
  exact h.uniq (Classical.choose_spec hx)
section
variable {P : Program} {w : World} {A : Around} {E : Value → Shared → Prop} {s : Shared} {a : Addr} {S : List Str}
theorem tx_sorted {Q : Value → Shared → Prop} (R : TxS w s.heap a S) (hh : A.handled = none) (h64 : S.length < 64)
    (hQ : ∀ s' p (out : Array Value) (c : Nat) (ys : List Str), (∀ b o, s.heap.get? b = some o → s'.heap.get? b = some o) → s'.gens = s.gens → s'.os = s.os → s.heap.objs.size ≤ p → s'.heap.get? p = some (seqObj "list" out c) → StrsAre out.toList ys → ys.Perm S → sortedS ys = true → Q (.ref p) s') :
    wpAny (model P w) A (call (.builtin "sorted") [.ref a]) Q E s := by
  obtain ⟨o, es, ep, t, ho, hx, hd, T⟩ := R
  refine Calls.call_function_entry kind_sorted plain_sorted entry_sorted (args_sorted1 _) ?_
  unfold Builtin.«sorted»
  refine wpAny_bind (m := checkCount "sorted" 1 1 _) (wpAny_pure (wpAny_bind (collect_set (A := A.in1) hh ⟨o, ho, hx.1, hd⟩ T.fi T.bd T.ri T.le fun s1 vs k1 hz g1 o1 pm => ?_)))
  have hS : StrsAre vs (vs.map PyProof.Rows.strOf) := strsAre_map vs fun v hv => by
    obtain ⟨e, he, q⟩ := List.mem_map.mp (pm.mem_iff.mp hv)
    obtain ⟨x, tk, h1, _⟩ := T.el e he
    exact ⟨x, tk, by rw [← q]; exact h1⟩
  have pS : (vs.map PyProof.Rows.strOf).Perm S := by
    have q := pm.map PyProof.Rows.strOf
    rw [List.map_map] at q
    exact q.trans T.ls
  have hvl : vs.length = S.length := by
    have q := pS.length_eq
    rw [List.length_map] at q; exact q
  refine wpAny_bind (wpAny_newList ?_ (by rw [hvl, sizeLine_eq]; omega))
  have hL : (s1.heap.push (seqObj "list" vs.toArray 0)).get? s1.heap.objs.size = some (seqObj "list" vs.toArray 0) := Heap.get?_push_size _ rfl
  refine wpAny_bind (wpAny_holding (wpAny_call_entry slot_list_sort ⟨_, hL, rfl⟩ entry_list_sort (list_sort_treeK strKind_oneLt hL hS.keysOf (fun v₁ v₂ rest e => keyKind_strs (by rw [← e]; exact hS)) (by rw [hvl]; exact h64) fun st' a1 a2 => ⟨_, rfl, ?_⟩) (args_list_sort _)))
  obtain ⟨ys, b1, b2, b3⟩ := sorted_out_str hS a1 a2
  obtain ⟨c, hc⟩ := sortedHeap_at (vs := vs) (out := (arrOf st').map (·.2)) hL
  refine wpAny_pure ⟨_, rfl, hQ _ s1.heap.objs.size _ c ys (fun b u e => ?_) g1 o1 hz hc b1 (b2.trans pS) b3⟩
  have q := k1 b u e
  have hlt := Heap.lt_size q
  show (sortedHeap (s1.heap.push (seqObj "list" vs.toArray 0)) s1.heap.objs.size vs _).get? b = some u
  rw [sortedHeap_old (Nat.ne_of_lt hlt) (by rw [size_push']; exact Nat.lt_succ_of_lt hlt)]
  exact Heap.get?_push_of_some _ q
end
/-- sorted(set(e)), e a list of texts -/
def tSU (K : PySem.W.Frag) (ta : TE) : TE := fun σ H Q => ta σ H fun x H1 => ∃ (l : Addr) (xs : List Str), x = V.ref l ∧ SqL K H1 l (xs.map V.str) ∧ xs.length < 60 ∧ ∀ p, H1 p = none → Q (.ref p) (upd H1 p (.lst ((sortU xs).map V.str)))
theorem pe_su {X : Cx} {a : Expr} {ta : TE} {p p2 q pos : Pos} (hc : X.calm = true) (hg : Gl X "sorted") (hm : X.mg "sorted" = none) (hg2 : Gl X "set") (hm2 : X.mg "set" = none) (ha : PE X a ta)
    (na : starEach [a] X.env = (false, eval a X.env) :: starEach [] X.env := by rfl) : PE X (.Call (.Name "sorted" p) [.Call (.Name "set" p2) [a] [] q] [] pos) (tSU X.K ta) := by
  refine ⟨fun pins s σ H Q I h => Call_ (ld_blt I hg hm PyProof.Rows.boot_sorted ?_)⟩
  refine PyProof.Rows.callWith_builtin1 (PyProof.Rows.args_cons (Call_ (ld_blt I hg2 hm2 PyProof.Rows.boot_set ?_)) rfl) rfl rfl
  refine PyProof.Rows.callWith_type1 (PyProof.Rows.args_cons (thn (ha.run pins s σ H _ I h) fun v s1 ⟨x, H1, I1, r1, l, xs, ex, hq, hl, q1⟩ => PyProof.Rows.args_nil ?_) na) na rfl
  subst ex
  cases r1
  obtain ⟨its, r, pl, hz⟩ := I1.list hq
  refine tx_set xs (I1.ok.hd hc) pl.isList (by simpa using r.strs) (by unfold scanBound; omega) fun h' tk S R g hk => PyProof.Rows.args_nil ?_
  have I2 : Inv X pins σ H1 { s1 with heap := h', toks := tk } := I1.kept fun b o e => hk b o e
  refine tx_sorted (s := { s1 with heap := h', toks := tk }) R (I2.ok.hd hc) (by have := g.len; omega) fun s' pa out c ys k2 g2 o2 hp hg3 hS pm so => ?_
  have su : IsSU xs ys := by
    obtain ⟨_, es, _, _, _, _, _, T⟩ := R
    exact ⟨pm.nodup_iff.mpr T.nd, fun y => by rw [pm.mem_iff, g.mem y, List.take_length], so⟩
  have eu := sortU_is su
  subst eu
  have hn : H1 pa = none := I2.hok.fresh hp
  have hlen : ((sortU xs).map V.str).length ≤ sizeLine := by
    rw [List.length_map, pm.length_eq, sizeLine_eq]; have := g.len; omega
  have J : Inv X pins σ (upd H1 pa (.lst ((sortU xs).map V.str))) { { s1 with heap := h', toks := tk } with heap := s'.heap, gens := s'.gens, drawn := s'.drawn, toks := s'.toks } :=
    I2.call (ch := []) (Un.laid k2 hp hn) (I2.hok.laid k2 hp ⟨hlen, out.toList, c, vals_of_strs hS, hg3⟩) (by rw [g2]; exact I2.bare) (fun _ z => nomatch z)
  have e : s' = { { s1 with heap := h', toks := tk } with heap := s'.heap, gens := s'.gens, drawn := s'.drawn, toks := s'.toks } := by
    cases s'
    cases s1
    cases o2
    rfl
  rw [e]
  exact ⟨.ref pa, _, J, rfl, q1 pa hn⟩
theorem dpa_of_strs {K : PySem.W.Frag} {G : Hp} : ∀ ns : List Str, DpAll K G (ns.map V.str) (ns.map .str)
  | [] => .nil
  | n :: ns => .cons (.str n) (dpa_of_strs ns)
theorem ev_su {X : Cx} {env : LE} {μ μ1 : MU} {a : Expr} {x : DE} {xs : List Str} {p p2 q pos : Pos} (ha : Ev X a env μ μ1 x) (hx : Dv μ1 x (.list (xs.map .str))) (hl : xs.length < 60) (hc : X.calm = true) (hg : Gl X "sorted") (hm : X.mg "sorted" = none) (hg2 : Gl X "set") (hm2 : X.mg "set" = none)
    (na : starEach [a] X.env = (false, eval a X.env) :: starEach [] X.env := by rfl) : Ev X (.Call (.Name "sorted" p) [.Call (.Name "set" p2) [a] [] q] [] pos) env μ μ1 (.d (.list ((sortU xs).map .str))) := .mk fun σ G H A E S Q qq pins s I =>
  (pe_su hc hg hm hg2 hm2 pu na).run pins s σ H Q I (ha.run σ G H A E S _ fun v G1 H1 A1 e1 m1 S1 r1 => by
    obtain ⟨l, vs, rfl, t, dd⟩ := Rp.lst S1 r1 hx
    rw [dpa_strs dd] at t
    exact ⟨l, xs, rfl, t, hl, fun pp hp => (qq.mono e1 m1).newL S1 hp (dpa_of_strs _)⟩)
end Rw
/-! RwV: what is a raft, folk; things of any kind, and things spoilt. -/
namespace Rw
open PySem PySem.Spec PyProof.Rows L2
/-! ### texts of plain signs -/
def Asc (t : Str) : Prop := ∀ c ∈ t.cps.toList, c < 128
theorem asc_app {a b : Str} (h : Asc a) (k : Asc b) : Asc (a ++ b) := fun c hc => by
  rw [PySem.Str.cps_append, Array.toList_append] at hc
  rcases List.mem_append.mp hc with z | z
  · exact h c z
  · exact k c z
theorem len_app (a b : Str) : (a ++ b).length = a.length + b.length := by
  show (a ++ b).cps.size = a.cps.size + b.cps.size
  rw [PySem.Str.cps_append, Array.size_append]
theorem asc_slice {t : Str} (h : Asc t) (l u : Option Int) : Asc (Txt.slice t l u) := fun c hc => by
  unfold Txt.slice at hc
  split at hc
  · exact h c hc
  · have hc : c ∈ (List.filterMap (t.cps[·]?) (Builtin.Str.strSliceIndices l u 1 t.length)) := by simpa using hc
    obtain ⟨i, _, e⟩ := List.mem_filterMap.mp hc
    exact h c (List.mem_of_getElem? (by rw [Array.getElem?_toList]; exact e))
theorem asc_upper : ∀ (l : List Nat), (∀ c ∈ l, c < 128) → Asc (Txt.upper ⟨l.toArray⟩)
  | [], _ => fun c hc => by
    have e : Txt.upper ⟨([] : List Nat).toArray⟩ = ⟨#[]⟩ := by decide +kernel
    rw [e] at hc; simp at hc
  | x :: r, h => by
    have e : (⟨(x :: r).toArray⟩ : Str) = (⟨#[x]⟩ : Str) ++ (⟨r.toArray⟩ : Str) := by
      apply PySem.Str.ext'
      rw [PySem.Str.cps_append]; simp
    rw [e, PySem.W.KOpn.upper_app]
    refine asc_app ?_ (asc_upper r fun c hc => h c (by simp [hc]))
    rw [PySem.W.KOpn.upper_one (h x (by simp))]
    intro c hc
    have hc : c = if 97 ≤ x ∧ x ≤ 122 then x - 32 else x := by simpa using hc
    have := h x (by simp)
    rw [hc]; split <;> omega
theorem asc_up {t : Str} (h : Asc t) : Asc (Txt.upper t) := by
  have e : t = ⟨t.cps.toList.toArray⟩ := by rw [Array.toArray_toList]
  rw [e]; exact asc_upper _ h
theorem asc_int (i : Int) : Asc (Str.ofString (toString i)) := fun c hc => by
  rw [PySem.Str.ofString_eq_toList] at hc
  have hc : c ∈ (toString i).toList.map Char.toNat := by simpa using hc
  obtain ⟨ch, h1, rfl⟩ := List.mem_map.mp hc
  rcases int_sign i ch h1 with z | z
  · have := digit_range z; omega
  · rw [z]; decide
theorem asc_ok {t : Str} (h : Asc t) : PyData.canLay0 (.str t) = true := by
  show t.cps.all (· < 0x110000) = true
  rw [← Array.all_toList, List.all_eq_true]
  exact fun c hc => decide_eq_true (by have := h c hc; omega)
instance (t : Str) : Decidable (Asc t) := inferInstanceAs (Decidable (∀ c ∈ t.cps.toList, c < 128))
/-! ### things of any kind -/
def tl : Nat → Nat
  | 0 => 2000
  | n + 1 => 3 * tl n + 2000
theorem tl_5 {n : Nat} (h : n ≤ 6) : tl n ≤ 3000000 := by
  have : n = 0 ∨ n = 1 ∨ n = 2 ∨ n = 3 ∨ n = 4 ∨ n = 5 ∨ n = 6 := by omega
  rcases this with rfl | rfl | rfl | rfl | rfl | rfl | rfl <;> decide
inductive Nice (n : Nat) : Nat → Dt → Prop
  | non {k : Nat} : Nice n k .none
  | bl {k : Nat} (b : Bool) : Nice n k (.bool b)
  | int {k : Nat} {i : Int} (h : i.natAbs ≤ 2 ^ 230 + 2000 + 1000 * n) : Nice n k (.int i)
  | str {k : Nat} {t : Str} (h : t.length ≤ tl n) (a : Asc t) : Nice n k (.str t)
  | seq {k : Nat} {b : Bool} {xs : List Dt} (hl : xs.length ≤ 140 + n) (h : ∀ x ∈ xs, Nice n k x) : Nice n (k + 1) (seqD b xs)
theorem tl_up (n : Nat) : tl n ≤ tl (n + 1) := by show tl n ≤ 3 * tl n + 2000; omega
theorem Nice.up {n k : Nat} {d : Dt} (h : Nice n k d) : ∀ j, k ≤ j → Nice (n + 1) j d := by
  induction h with
  | non => exact fun _ _ => .non
  | bl b => exact fun _ _ => .bl b
  | int h => exact fun _ _ => .int (by omega)
  | str h a => exact fun _ _ => .str (Nat.le_trans h (tl_up n)) a
  | seq hl h ih =>
    intro j hj
    obtain ⟨j', rfl⟩ : ∃ j', j = j' + 1 := ⟨j - 1, by omega⟩
    exact .seq (by omega) fun x hx => ih x hx j' (by omega)
theorem Nice.deep {n k : Nat} {d : Dt} (h : Nice n k d) : ∀ j, k ≤ j → Nice n j d := by
  induction h with
  | non => exact fun _ _ => .non
  | bl b => exact fun _ _ => .bl b
  | int h => exact fun _ _ => .int h
  | str h a => exact fun _ _ => .str h a
  | seq hl h ih =>
    intro j hj
    obtain ⟨j', rfl⟩ : ∃ j', j = j' + 1 := ⟨j - 1, by omega⟩
    exact .seq hl fun x hx => ih x hx j' (by omega)
theorem Nice.lay {n k : Nat} {d : Dt} (h : Nice n k d) : Lay k d := by
  induction h with
  | non => exact (lay_none).mono (Nat.zero_le _)
  | bl b => exact ⟨by simp [PyData.canLay0], by simp [PyData.depth]⟩
  | int h => exact (lay_int _).mono (Nat.zero_le _)
  | str h a => exact (lay_str (asc_ok a)).mono (Nat.zero_le _)
  | @seq _ b xs hl h ih =>
    cases b with
    | true => exact lay_lst ih
    | false => exact lay_tup ih
theorem Nice.tup {n k : Nat} {xs : List Dt} (h : Nice n k (.tuple xs)) : xs.length ≤ 140 + n ∧ ∀ x ∈ xs, Nice n k x := by
  generalize e : PyData.tuple xs = d at h
  cases h with
  | @seq k' b ys hl hy =>
    cases b with
    | true => cases e
    | false =>
      cases e
      exact ⟨hl, fun x hx => (hy x hx).deep _ (by omega)⟩
  | _ => cases e
theorem Nice.intb {n k : Nat} {i : Int} (h : Nice n k (.int i)) : i.natAbs ≤ 2 ^ 230 + 2000 + 1000 * n := by
  generalize e : PyData.int i = d at h
  cases h with
  | int h => cases e; exact h
  | @seq k' b ys hl hy => cases b <;> cases e
  | _ => cases e
theorem Nice.strb {n k : Nat} {t : Str} (h : Nice n k (.str t)) : t.length ≤ tl n ∧ Asc t := by
  generalize e : PyData.str t = d at h
  cases h with
  | str h a => cases e; exact ⟨h, a⟩
  | @seq k' b ys hl hy => cases b <;> cases e
  | _ => cases e
theorem Nice.nd {n k : Nat} {d : Dt} (h : Nice n k d) : noDict d = true := by
  cases h with
  | @seq k' b ys hl hy => cases b <;> rfl
  | _ => rfl
/-! ### what is a raft, folk -/
def wthB (d : Dt) (lo hi : Int) : Bool := match d with
  | .int i => decide (lo ≤ i) && decide (i ≤ hi)
  | _ => false
def okSign (c : Nat) : Bool := decide (97 ≤ c) && decide (c ≤ 122)
def nameT (t : Str) : Bool := (decide (1 ≤ (t.length : Int)) && decide ((t.length : Int) ≤ 8)) && t.cps.toList.all okSign
def nameB : Dt → Bool
  | .str t => nameT t
  | _ => false
def rftB : Dt → Bool
  | .tuple [a, b] => wthB a 1 1000 && wthB b 1 1000
  | _ => false
def oneB : Dt → Bool
  | .tuple [a, b, c] => nameB a && (wthB b 1 200 && wthB c 0 100)
  | _ => false
def nmOf : Dt → Str
  | .tuple (.str t :: _) => t
  | _ => ⟨#[]⟩
noncomputable def flkL (xs : List Dt) : Bool := (decide (1 ≤ (xs.length : Int)) && decide ((xs.length : Int) ≤ 7)) && (xs.all oneB && decide (xs.map nmOf = sortU (xs.map nmOf)))
noncomputable def flkB : Dt → Bool
  | .tuple xs => flkL xs
  | _ => false
theorem rft_no {d : Dt} (h : tupB d 2 = false) : rftB d = false := by
  cases d with
  | tuple xs =>
    match xs, h with
    | [], _ => rfl
    | [_], _ => rfl
    | [_, _], h => simp [tupB] at h
    | _ :: _ :: _ :: _, _ => rfl
  | _ => rfl
theorem one_no {d : Dt} (h : tupB d 3 = false) : oneB d = false := by
  cases d with
  | tuple xs =>
    match xs, h with
    | [], _ => rfl
    | [_], _ => rfl
    | [_, _], _ => rfl
    | [_, _, _], h => simp [tupB] at h
    | _ :: _ :: _ :: _ :: _, _ => rfl
  | _ => rfl
theorem len3 {xs : List Dt} (h : (xs.length : Int) = 3) : ∃ a b c, xs = [a, b, c] := by
  match xs, h with
  | [a, b, c], _ => exact ⟨a, b, c, rfl⟩
  | [], h => simp at h
  | [_], h => simp at h
  | [_, _], h => simp at h
  | _ :: _ :: _ :: _ :: _, h => simp at h; omega
theorem name_is {d : Dt} (h : nameB d = true) : ∃ t, d = .str t ∧ nameT t = true := by
  cases d with
  | str t => exact ⟨t, rfl, h⟩
  | _ => cases h
theorem nameT_asc {t : Str} (h : nameT t = true) : Asc t := fun c hc => by
  unfold nameT at h
  rw [Bool.and_eq_true, List.all_eq_true] at h
  have := h.2 c hc
  unfold okSign at this
  rw [Bool.and_eq_true, decide_eq_true_eq, decide_eq_true_eq] at this
  omega
theorem one_is {d : Dt} (h : oneB d = true) : ∃ t b c, d = .tuple [.str t, b, c] ∧ nameT t = true ∧ nmOf d = t := by
  match d, h with
  | .tuple [a, b, c], h =>
    have h : (nameB a && (wthB b 1 200 && wthB c 0 100)) = true := h
    rw [Bool.and_eq_true] at h
    obtain ⟨t, rfl, ht⟩ := name_is h.1
    exact ⟨t, b, c, rfl, ht, rfl⟩
theorem eqv_strs : ∀ (a b : List Str), PyData.eqvAll (a.map .str) (b.map .str) = decide (a = b)
  | [], [] => by simp [PyData.eqvAll]
  | [], _ :: _ => by simp [PyData.eqvAll]
  | _ :: _, [] => by simp [PyData.eqvAll]
  | x :: a, y :: b => by
    simp only [List.map_cons, PyData.eqvAll]
    rw [eqv_str, eqv_strs a b]
    by_cases h1 : x = y <;> by_cases h2 : a = b <;> simp [h1, h2]
theorem eqv_names (a b : List Str) : PyData.eqv (.list (a.map .str)) (.list (b.map .str)) = decide (a = b) := by
  simp only [PyData.eqv]; exact eqv_strs a b
theorem eqv_nil (a : List Dt) : PyData.eqv (.list a) (.list []) = a.isEmpty := by
  cases a <;> simp [PyData.eqv, PyData.eqvAll]
theorem sortU_mem {xs : List Str} {y : Str} (h : y ∈ sortU xs) : y ∈ xs := by
  unfold sortU at h
  split at h
  · rename_i hx
    exact ((Classical.choose_spec hx).mem y).mp h
  · simp at h
theorem lay_names {xs : List Str} (h : ∀ x ∈ xs, Asc x) : Lay 1 (.list (xs.map .str)) := lay_lst fun d hd => by
  obtain ⟨x, hx, rfl⟩ := List.mem_map.mp hd
  exact lay_str (asc_ok (h x hx))
end Rw
/-! RwW: things drawn of any kind, things spoilt. -/
namespace Rw
open PySem PySem.Spec PyProof.Rows L2
def annD : Dt := .tuple [.str "ann", .int 1, .int 0]
def oddA : List Dt := [.none, .bool true, .bool false, .int 0, .int 1, .int (-1), .int 5, .int (10 ^ 30), .str "", .str "ann", .tuple [], .list [], .tuple [.int 1, .int 2], .tuple [.int (-1), .int 2], .tuple [.int 2, .int 4], .tuple [.int 0, .int 2], .tuple [.int 0, .int 1]]
def oddZ : List Dt := [.tuple [.none], annD, .tuple [annD], .tuple [.tuple [.int 0, .int 1], .tuple [.tuple [.int 0, .int 1]]], .tuple [.tuple [], .str "ann"], .list [.tuple [.tuple [], .str "ann"]], .tuple [.int 1, .int 0]]
def pickD (l : List Dt) (k : Int) : Dt := (l[k.toNat]?).getD .none
theorem at_pick {l : List Dt} {k : Int} (h0 : 0 ≤ k) (h : k < (l.length : Int)) : atI l k = some (pickD l k) := by
  obtain ⟨n, rfl⟩ : ∃ n : Nat, k = n := ⟨k.toNat, by omega⟩
  have hn : n < l.length := by omega
  unfold atI pickD
  have e : ixN l.length (n : Int) = some n := by
    unfold ixN
    first
      | (simp; omega)
      | (rw [if_neg (by omega), if_pos (by omega)]; simp)
  rw [e, Int.toNat_natCast]
  show l[n]? = _
  rw [List.getElem?_eq_getElem hn]; rfl
theorem pick_mem {l : List Dt} {k : Int} (h0 : 0 ≤ k) (h : k < (l.length : Int)) : pickD l k ∈ l := by
  have hn : k.toNat < l.length := by omega
  unfold pickD
  rw [List.getElem?_eq_getElem hn]
  exact List.getElem_mem hn
def oddV (s : Bag) : Dt := pickD (oddA ++ oddZ) (takeV s 24)
def oddB (s : Bag) : Bag := takeB s 24
theorem odd_len : (oddA ++ oddZ).length = 24 := rfl
theorem nice_t2 {n k : Nat} {a b : Dt} (h : Nice n k a) (h' : Nice n k b) : Nice n (k + 1) (.tuple [a, b]) := .seq (b := false) (xs := [a, b]) (by simp; omega) fun x hx => by
  have : x = a ∨ x = b := by simpa using hx
  rcases this with rfl | rfl
  · exact h
  · exact h'
theorem nice_t1 {n k : Nat} {b : Bool} {a : Dt} (h : Nice n k a) : Nice n (k + 1) (seqD b [a]) := .seq (by simp; omega) fun x hx => by
  have : x = a := by simpa using hx
  subst this; exact h
theorem nice_t0 {n k : Nat} (b : Bool) : Nice n (k + 1) (seqD b []) := .seq (by simp) fun x hx => by simp at hx
theorem nice_ann {n k : Nat} : Nice n (k + 1) annD := .seq (b := false) (xs := [.str "ann", .int 1, .int 0]) (by simp; omega) fun x hx => by
  have : x = .str "ann" ∨ x = .int 1 ∨ x = .int 0 := by simpa using hx
  rcases this with rfl | rfl | rfl
  · exact .str (by have : tl 0 ≤ tl n := by { induction n with | zero => exact Nat.le_refl _ | succ n ih => exact Nat.le_trans ih (tl_up n) }; exact Nat.le_trans (by decide) this) (by decide)
  · exact .int (by omega)
  · exact .int (by omega)
theorem nice_i {n k : Nat} {i : Int} (h : i.natAbs ≤ 1000) : Nice n k (.int i) := .int (by omega)
theorem tl_0 (n : Nat) : 2000 ≤ tl n := by
  cases n with
  | zero => exact Nat.le_refl _
  | succ n => show 2000 ≤ 3 * tl n + 2000; omega
theorem nice_s {n k : Nat} {t : Str} (h : t.length ≤ 2000) (a : Asc t) : Nice n k (.str t) := .str (Nat.le_trans h (tl_0 n)) a
theorem nice_i2 {n k : Nat} {i j : Int} (h : i.natAbs ≤ 1000) (h' : j.natAbs ≤ 1000) : Nice n (k + 1) (.tuple [.int i, .int j]) := nice_t2 (nice_i h) (nice_i h')
theorem odd_nice (n : Nat) : ∀ d ∈ oddA ++ oddZ, Nice n 3 d := fun d hd => by
  unfold oddA oddZ at hd
  simp only [List.cons_append, List.nil_append, List.mem_cons, List.not_mem_nil, or_false] at hd
  rcases hd with rfl | rfl | rfl | rfl | rfl | rfl | rfl | rfl | rfl | rfl | rfl | rfl | rfl | rfl | rfl | rfl | rfl | rfl | rfl | rfl | rfl | rfl | rfl | rfl
  · exact .non
  · exact .bl _
  · exact .bl _
  · exact nice_i (by decide)
  · exact nice_i (by decide)
  · exact nice_i (by decide)
  · exact nice_i (by decide)
  · exact .int (by omega)
  · exact nice_s (by decide) (by decide)
  · exact nice_s (by decide) (by decide)
  · exact nice_t0 false
  · exact nice_t0 true
  · exact nice_i2 (by decide) (by decide)
  · exact nice_i2 (by decide) (by decide)
  · exact nice_i2 (by decide) (by decide)
  · exact nice_i2 (by decide) (by decide)
  · exact nice_i2 (by decide) (by decide)
  · exact nice_t1 (b := false) .non
  · exact nice_ann
  · exact nice_t1 (b := false) nice_ann
  · exact nice_t2 (nice_i2 (by decide) (by decide)) (nice_t1 (b := false) (nice_i2 (by decide) (by decide)))
  · exact nice_t2 (nice_t0 false) (nice_s (by decide) (by decide))
  · exact nice_t1 (b := true) (nice_t2 (nice_t0 false) (nice_s (by decide) (by decide)))
  · exact nice_i2 (by decide) (by decide)
theorem oddV_nice (n : Nat) (s : Bag) : Nice n 3 (oddV s) := odd_nice n _ (pick_mem (take_lo s (by omega)) (by rw [odd_len]; exact take_hi s (by omega)))
/-! ### spoilt -/
def txtL (t : Str) : List Dt := [.str (t ++ "a"), .str (Txt.slice t none (some (-1))), .str (t ++ " "), .str (Txt.upper t), .str (t ++ t), .str ("z" ++ t), .str ""]
def intL (i : Int) : List Dt := [.int (i + 1), .int (i - 1), .int (-i), .int (i + 1000), .str (Str.ofString (toString i)), .int (i + 50), .tuple [.int i]]
def blL (b : Bool) : List Dt := [.int (bI b + 1), .int (bI b - 1), .int (-bI b), .int (bI b + 1000), .str (boolT b), .int (bI b + 50), .tuple [.bool b]]
/-- no list, no tuple, or an empty one, or kind 0 -/
def spS (d : Dt) (s : Bag) : Dt × Bag := if 1 < takeV s 9 then (match d with
  | .str t => (pickD (txtL t) (takeV s 9 - 2), takeB s 9)
  | .int i => (pickD (intL i) (takeV s 9 - 2), takeB s 9)
  | .bool b => (pickD (blL b) (takeV s 9 - 2), takeB s 9)
  | _ => (oddV (takeB s 9), oddB (takeB s 9))) else (oddV (takeB s 9), oddB (takeB s 9))
def spAt (xs : List Dt) (s : Bag) : Nat := (takeV s xs.length).toNat
def spNx (xs : List Dt) (s : Bag) : Bag := takeB s xs.length
def getD0 (xs : List Dt) (i : Nat) : Dt := (xs[i]?).getD .none
def spG (rec : Dt → Bag → Dt × Bag) (b : Bool) (xs : List Dt) (k : Int) (s : Bag) : Dt × Bag :=
  if k = 1 then (seqD b (xs.take (spAt xs s) ++ xs.drop (spAt xs s + 1)), spNx xs s)
  else if k = 2 then (seqD b (xs.take (spAt xs s + 1) ++ xs.drop (spAt xs s)), spNx xs s)
  else if k = 3 then (seqD b ((xs.set (spAt xs s) (getD0 xs (spAt xs (spNx xs s)))).set (spAt xs (spNx xs s)) (getD0 xs (spAt xs s))), spNx xs (spNx xs s))
  else if k = 4 then (seqD (!b) xs, spNx xs s)
  else (seqD b (xs.set (spAt xs s) (rec (getD0 xs (spAt xs s)) (spNx xs s)).1), (rec (getD0 xs (spAt xs s)) (spNx xs s)).2)
def seqOf : Dt → Option (Bool × List Dt)
  | .list xs => some (true, xs)
  | .tuple xs => some (false, xs)
  | _ => none
def spR : Nat → Dt → Bag → Dt × Bag
  | 0, d, s => spS d s
  | n + 1, d, s => match seqOf d with
    | some (b, xs) => if 0 < xs.length ∧ 0 < takeV s 9 then spG (spR n) b xs (takeV s 9) (takeB s 9) else spS d s
    | none => spS d s
theorem spAt_lt {xs : List Dt} (h : 0 < xs.length) (s : Bag) : spAt xs s < xs.length := by
  have h1 := take_lo s (n := (xs.length : Int)) (by omega)
  have h2 := take_hi s (n := (xs.length : Int)) (by omega)
  unfold spAt; omega
theorem spAt_int {xs : List Dt} (h : 0 < xs.length) (s : Bag) : takeV s xs.length = (spAt xs s : Int) := by
  have h1 := take_lo s (n := (xs.length : Int)) (by omega)
  unfold spAt; omega
theorem getD0_at {xs : List Dt} {i : Nat} (h : i < xs.length) : xs[i]? = some (getD0 xs i) := by
  unfold getD0; rw [List.getElem?_eq_getElem h]; rfl
theorem getD0_mem {xs : List Dt} {i : Nat} (h : i < xs.length) : getD0 xs i ∈ xs := List.mem_of_getElem? (getD0_at h)
theorem bI_le (b : Bool) : (bI b).natAbs ≤ 1 := by cases b <;> decide
theorem spS_ok {d : Dt} {s : Bag} (h : s.ok) : (spS d s).2.ok := by
  have h1 : (takeB s 9).ok := take_ok (by omega) h
  have h2 : (oddB (takeB s 9)).ok := take_ok (by omega) h1
  unfold spS
  split
  · split <;> first | exact h1 | exact h2
  · exact h2
theorem spR_ok : ∀ (n : Nat) (d : Dt) {s : Bag}, s.ok → (spR n d s).2.ok
  | 0, d, s, h => spS_ok h
  | n + 1, d, s, h => by
    unfold spR
    split
    · rename_i b xs _
      split
      · rename_i hc
        have h1 : (takeB s 9).ok := take_ok (by omega) h
        have h2 : ∀ {s : Bag}, s.ok → (spNx xs s).ok := fun z => take_ok (by omega) z
        unfold spG
        split
        · exact h2 h1
        · split
          · exact h2 h1
          · split
            · exact h2 (h2 h1)
            · split
              · exact h2 h1
              · exact spR_ok n _ (h2 h1)
      · exact spS_ok h
    · exact spS_ok h
theorem spS_nice {j k : Nat} {d : Dt} (s : Bag) (h : Nice j k d) (hj : j ≤ 5) : Nice (j + 1) (k + 3) (spS d s).1 := by
  have ho : Nice (j + 1) (k + 3) (oddV (takeB s 9)) := (oddV_nice _ _).deep _ (by omega)
  have hk := take_hi s (n := 9) (by omega)
  unfold spS
  split
  · rename_i h1
    have hp : ∀ {l : List Dt}, l.length = 7 → pickD l (takeV s 9 - 2) ∈ l := fun e => pick_mem (by omega) (by rw [e]; omega)
    split
    · rename_i t
      obtain ⟨hl, ha⟩ := h.strb
      have ht := tl_0 j
      have hm := hp (l := txtL t) rfl
      generalize pickD (txtL t) (takeV s 9 - 2) = d at hm
      show Nice (j + 1) (k + 3) d
      unfold txtL at hm
      simp only [List.mem_cons, List.not_mem_nil, or_false] at hm
      have e1 : tl (j + 1) = 3 * tl j + 2000 := rfl
      rcases hm with rfl | rfl | rfl | rfl | rfl | rfl | rfl
      · exact .str (by rw [len_app, e1]; have : ("a" : Str).length = 1 := by decide
                       omega) (asc_app ha (by decide))
      · exact .str (by have := Txt.slice_le t none (some (-1)); rw [e1]; omega) (asc_slice ha _ _)
      · exact .str (by rw [len_app, e1]; have : (" " : Str).length = 1 := by decide
                       omega) (asc_app ha (by decide))
      · exact .str (by have := len_upper t; rw [e1]; omega) (asc_up ha)
      · exact .str (by rw [len_app, e1]; omega) (asc_app ha ha)
      · exact .str (by rw [len_app, e1]; have : ("z" : Str).length = 1 := by decide
                       omega) (asc_app (by decide) ha)
      · exact nice_s (by decide) (by decide)
    · rename_i i
      have hi := h.intb
      have hm := hp (l := intL i) rfl
      generalize pickD (intL i) (takeV s 9 - 2) = d at hm
      show Nice (j + 1) (k + 3) d
      unfold intL at hm
      simp only [List.mem_cons, List.not_mem_nil, or_false] at hm
      rcases hm with rfl | rfl | rfl | rfl | rfl | rfl | rfl
      · exact .int (by omega)
      · exact .int (by omega)
      · exact .int (by omega)
      · exact .int (by omega)
      · have hlg : i.natAbs.log2 < 1920 := by
          by_cases h0 : i.natAbs = 0
          · rw [h0]; decide
          · exact (Nat.log2_lt h0).mpr (Nat.lt_of_le_of_lt hi (Nat.lt_of_lt_of_le (show 2 ^ 230 + 2000 + 1000 * j < 2 ^ 231 by omega) (Nat.pow_le_pow_right (by omega) (by omega))))
        exact nice_s (Nat.le_trans (int_text_len_1921 hlg) (by omega)) (asc_int i)
      · exact .int (by omega)
      · exact (nice_t1 (b := false) (k := k) (.int (by omega))).deep _ (by omega)
    · rename_i b
      have hm := hp (l := blL b) rfl
      have hb := bI_le b
      generalize pickD (blL b) (takeV s 9 - 2) = d at hm
      show Nice (j + 1) (k + 3) d
      unfold blL at hm
      simp only [List.mem_cons, List.not_mem_nil, or_false] at hm
      rcases hm with rfl | rfl | rfl | rfl | rfl | rfl | rfl
      · exact .int (by omega)
      · exact .int (by omega)
      · exact .int (by omega)
      · exact .int (by omega)
      · exact nice_s (by cases b <;> decide) (by cases b <;> decide)
      · exact .int (by omega)
      · exact (nice_t1 (b := false) (k := k) (.bl b)).deep _ (by omega)
    · exact ho
  · exact ho
theorem nice_seqOf {j k : Nat} {d : Dt} {b : Bool} {xs : List Dt} (h : Nice j k d) (e : seqOf d = some (b, xs)) : d = seqD b xs ∧ ∃ k', k = k' + 1 ∧ xs.length ≤ 140 + j ∧ ∀ x ∈ xs, Nice j k' x := by
  cases h with
  | @seq k' b' ys hl hy =>
    have e2 : seqOf (seqD b' ys) = some (b', ys) := by cases b' <;> rfl
    rw [e2] at e
    cases e
    exact ⟨rfl, k', rfl, hl, hy⟩
  | _ => cases e
theorem spR_nice : ∀ (n : Nat) {j k : Nat} {d : Dt} (s : Bag), Nice j k d → k ≤ n → j ≤ 5 → Nice (j + 1) (k + 3) (spR n d s).1
  | 0, j, k, d, s, h, _, hj => spS_nice s h hj
  | n + 1, j, k, d, s, h, hk, hj => by
    unfold spR
    split
    · rename_i b xs e
      split
      · rename_i hc
        obtain ⟨rfl, k', rfl, hl, hx⟩ := nice_seqOf h e
        have hu : ∀ x ∈ xs, Nice (j + 1) (k' + 3) x := fun x z => (hx x z).up _ (by omega)
        have mk : ∀ {b : Bool} {ys : List Dt}, ys.length ≤ xs.length + 1 → (∀ y ∈ ys, Nice (j + 1) (k' + 3) y) → Nice (j + 1) (k' + 1 + 3) (seqD b ys) := fun {b ys} h1 h2 => by
          rw [show k' + 1 + 3 = k' + 3 + 1 by omega]
          exact .seq (by omega) h2
        have ha := spAt_lt hc.1 (takeB s 9)
        unfold spG
        split
        · refine mk (by rw [List.length_append, List.length_take, List.length_drop]; omega) fun y hy => ?_
          rcases List.mem_append.mp hy with z | z
          · exact hu y (List.mem_of_mem_take z)
          · exact hu y (List.mem_of_mem_drop z)
        · split
          · refine mk (by rw [List.length_append, List.length_take, List.length_drop]; omega) fun y hy => ?_
            rcases List.mem_append.mp hy with z | z
            · exact hu y (List.mem_of_mem_take z)
            · exact hu y (List.mem_of_mem_drop z)
          · split
            · refine mk (by rw [List.length_set, List.length_set]; omega) fun y hy => ?_
              rcases List.mem_or_eq_of_mem_set hy with z | z
              · rcases List.mem_or_eq_of_mem_set z with z | z
                · exact hu y z
                · rw [z]; exact hu _ (getD0_mem (spAt_lt hc.1 _))
              · rw [z]; exact hu _ (getD0_mem ha)
            · split
              · exact mk (by omega) hu
              · refine mk (by rw [List.length_set]; omega) fun y hy => ?_
                rcases List.mem_or_eq_of_mem_set hy with z | z
                · exact hu y z
                · rw [z]; exact spR_nice n _ (hx _ (getD0_mem ha)) (by omega) hj
      · exact spS_nice s h hj
    · exact spS_nice s h hj
end Rw
/-! RwX: comprehensions with a test; ints that the top has written; things small enough. -/
namespace Rw
open PySem PySem.Spec PyProof.Rows L2
section
variable {X : Cx} {env : LE} {μ μ1 : MU} {tg iter elt : Expr} {ifs : List Expr} {pos : Pos} {sc : Scope} {own : List (Str × Nat)}
/-- [f(x) for x in l if t(x)] -/
theorem ev_lcf {α : Type} (l : List α) (enc out : α → Dt) (t : α → Bool) (hc : X.calm = true) (hN : X.N.Nodup) (ok : BlkOk X.N X.env.scope sc own) (hi : Itb X tg iter env μ μ1 (l.map enc)) (hl : l.length ≤ 1000)
    (hs : ∀ a, a ∈ l → ∃ env' ks, (∀ k ∈ ks, k ∈ own.map (·.2)) ∧ InB X sc (fun Y => Tg Y tg (.d (enc a)) (wipeE env (own.map (·.2))) μ1 env' ks) ∧ InB X sc (fun Y => EvTs Y ifs env' μ1 μ1 (t a)) ∧ (t a = true → InB X sc (fun Y => Ev Y elt env' μ1 μ1 (.d (out a)))))
    (hf : ∀ x, foldedSetIterable iter X.env x = pure x := by intro _; rfl) : Ev X (.ListComp elt [⟨tg, iter, ifs, 0⟩] sc pos) env μ μ1 (.d (.list ((l.filter t).map out))) := by
  refine ev_lc (own := own) (fun i m acc => m = μ1 ∧ acc = ((l.take i).filter t).map out) hc hN ok hi ⟨rfl, rfl⟩ (fun i d m acc hd hj => ?_) (fun m acc hj => ?_) hf
  · obtain ⟨rfl, rfl⟩ := hj
    obtain ⟨a, ha, rfl⟩ := map_get hd
    obtain ⟨env', ks, h1, h2, h3, h4⟩ := hs a (List.mem_of_getElem? ha)
    have e : (l.take (i + 1)).filter t = (l.take i).filter t ++ (if t a then [a] else []) := by
      rw [List.take_add_one, ha, List.filter_append]
      cases q : t a <;> simp [q]
    refine ⟨env', ks, t a, m, h1, h2, h3, fun z => ⟨out a, m, h4 z, ?_, rfl, ?_⟩, fun z => ⟨rfl, ?_⟩⟩
    · rw [List.length_map]
      have q := List.length_filter_le t (l.take i)
      rw [List.length_take] at q
      exact lnl (by have := lt_get ha; omega)
    · rw [e, if_pos z, List.map_append]; rfl
    · rw [e, z]; simp
  · obtain ⟨rfl, rfl⟩ := hj
    rw [List.length_map]
    exact ⟨rfl, by rw [List.take_of_length_le (Nat.le_refl _)]⟩
end
/-- an int that the top has written -/
structure IntAt (K : PySem.W.Frag) (x : Str) (i : Int) : Prop where
  ex : ∃ t : Tok, PySem.W.nsIn K mainGlobals x = some (some (.int i t))
theorem IntAt.has {K : PySem.W.Frag} {mg : Str → Option Value} {h : Heap} {x : Str} {i : Int} (D : IntAt K x i) (X : K.In h) (G : h.Ns mainGlobals mg) : HasC K mg x (.int i) := by
  obtain ⟨t, h1⟩ := D.ex
  exact ⟨.int i, .int i t, PySem.W.mg_of X G h1, ⟨t, rfl⟩, fun G => .int i⟩
theorem int_at {K : PySem.W.Frag} {x : Str} {i : Int} {t : Tok} (h : PySem.W.nsIn K mainGlobals x = some (some (.int i t))) : IntAt K x i := ⟨t, h⟩
/-! ### small enough -/
def Nc (d : Dt) : Prop := ∃ n k, n ≤ 5 ∧ k ≤ 30 ∧ Nice n k d
theorem Nc.tup {xs : List Dt} (h : Nc (.tuple xs)) : xs.length ≤ 145 ∧ ∀ x ∈ xs, Nc x := by
  obtain ⟨n, k, h1, h2, h3⟩ := h
  obtain ⟨a, b⟩ := h3.tup
  exact ⟨by omega, fun x hx => ⟨n, k, h1, h2, b x hx⟩⟩
theorem Nc.str {t : Str} (h : Nc (.str t)) : t.length ≤ 1000000 ∧ Asc t := by
  obtain ⟨n, k, h1, h2, h3⟩ := h
  obtain ⟨a, b⟩ := h3.strb
  refine ⟨Nat.le_trans a ?_, b⟩
  have : n = 0 ∨ n = 1 ∨ n = 2 ∨ n = 3 ∨ n = 4 ∨ n = 5 := by omega
  rcases this with rfl | rfl | rfl | rfl | rfl | rfl <;> decide
theorem Nc.int {i : Int} (h : Nc (.int i)) : i.natAbs < 2 ^ 231 := by
  obtain ⟨n, k, h1, h2, h3⟩ := h
  have := h3.intb
  omega
theorem Nc.lay {d : Dt} (h : Nc d) : Lay 30 d := by
  obtain ⟨n, k, h1, h2, h3⟩ := h
  exact h3.lay.mono h2
theorem sign_lo (c : Nat) : (!decide (([c] : List Nat) < [97])) = decide (97 ≤ c) := by
  rw [← decide_not, decide_eq_decide, List.cons_lt_cons_iff]
  constructor
  · intro h
    rcases Nat.lt_or_ge c 97 with q | q
    · exact absurd (.inl q) h
    · exact q
  · intro h z
    rcases z with z | ⟨_, z⟩
    · omega
    · exact absurd z (List.not_lt_nil _)
theorem sign_hi (c : Nat) : (!decide (([122] : List Nat) < [c])) = decide (c ≤ 122) := by
  rw [← decide_not, decide_eq_decide, List.cons_lt_cons_iff]
  constructor
  · intro h
    rcases Nat.lt_or_ge 122 c with q | q
    · exact absurd (.inl q) h
    · exact q
  · intro h z
    rcases z with z | ⟨_, z⟩
    · omega
    · exact absurd z (List.not_lt_nil _)
def abcT : Str := "abcdefghijklmnopqrstuvwxyz"
theorem abc_list : abcT.cps.toList = [97, 98, 99, 100, 101, 102, 103, 104, 105, 106, 107, 108, 109, 110, 111, 112, 113, 114, 115, 116, 117, 118, 119, 120, 121, 122] := by decide +kernel
theorem sign_in (c : Nat) : decide (c ∈ abcT.cps.toList) = okSign c := by
  rw [abc_list]
  unfold okSign
  rw [← Bool.decide_and, decide_eq_decide]
  simp only [List.mem_cons, List.not_mem_nil, or_false]
  omega
end Rw
namespace Rw
open PySem PySem.Spec PyProof.Rows L2
def isLstD : Dt → Bool
  | .list _ => true
  | _ => false
theorem kit_lst : ∀ d, kitB (tyN d) "list" = some (isLstD d)
  | .none => by decide +kernel
  | .bool _ => by show kitB "bool" "list" = some false; decide +kernel
  | .int _ => by show kitB "int" "list" = some false; decide +kernel
  | .str _ => by show kitB "str" "list" = some false; decide +kernel
  | .list _ => by show kitB "list" "list" = some true; decide +kernel
  | .tuple _ => by show kitB "tuple" "list" = some false; decide +kernel
  | .dict _ => by show kitB "dict" "list" = some false; decide +kernel
theorem seq_is (b : Bool) (xs : List Dt) : (isTupD (seqD b xs) || isLstD (seqD b xs)) = true := by cases b <;> rfl
theorem seq_tup (b : Bool) (xs : List Dt) : isTupD (seqD b xs) = !b := by cases b <;> rfl
theorem seqOf_no {d : Dt} (h : seqOf d = none) : (isTupD d || isLstD d) = false := by cases d <;> first | rfl | cases h
theorem seqOf_is {d : Dt} {b : Bool} {xs : List Dt} (h : seqOf d = some (b, xs)) : d = seqD b xs := by
  cases d <;> first | (cases h; done) | (cases h; rfl)
section
variable {X : Cx} {μ : MU}
theorem rc_lenK {b : Bool} {ds : List Dt} : RC X.K (fun xs H Q => ∃ p ys, xs = [.ref p] ∧ (SqL X.K H p ys ∨ SqT X.K H p ys) ∧ Q (.int ys.length) H) [.d (seqD b ds)] μ μ (.d (.int ds.length)) := by
  cases b with
  | true => exact rc_lenL rfl
  | false => exact rc_lenT
end
theorem cut_lo (xs : List Dt) (k : Nat) : cutD xs none (some (k : Int)) = xs.take k := by
  rw [cut_to _ (by omega), Int.toNat_natCast]
theorem cut_hi (xs : List Dt) {k : Nat} (h : k ≤ xs.length) : cutD xs (some (k : Int)) none = xs.drop k := cut_from xs h
theorem ix_nat {n k : Nat} (h : k < n) : ixN n (k : Int) = some k := by
  unfold ixN
  first
    | (simp; omega)
    | (rw [if_neg (by omega), if_pos (by omega)]; simp)
end Rw
/-! RwY: the things that k01's law asks of are small enough. -/
namespace Rw
open PySem PySem.Spec PyProof.Rows L2
theorem sz_nice {n k m : Nat} {x : Rat} (h : Sz m x) (hm : m ≤ 90) : Nice n (k + 1) (rD x) := by
  have h1 := pw_up h.1 hm
  have h2 := pw_up h.2 hm
  exact nice_t2 (.int (by omega)) (.int (by omega))
theorem nice_raft {n k : Nat} {r : Raft} (h : r.ok) : Nice n (k + 1) (raftD r) := by
  obtain ⟨a, b, c, d⟩ := h
  exact nice_i2 (by omega) (by omega)
theorem nice_tup {n k : Nat} {xs : List Dt} (hl : xs.length ≤ 140) (h : ∀ x ∈ xs, Nice n k x) : Nice n (k + 1) (.tuple xs) := .seq (b := false) (by omega) h
theorem nice_lst {n k : Nat} {xs : List Dt} (hl : xs.length ≤ 140) (h : ∀ x ∈ xs, Nice n k x) : Nice n (k + 1) (.list xs) := .seq (b := true) (by omega) h
def NmA (fs : List Man) : Prop := ∀ m ∈ fs, m.nm ∈ allNames
theorem names_asc : ∀ s ∈ allNames, s.length ≤ 2000 ∧ Asc s := by
  intro s hs
  unfold allNames at hs
  simp only [List.mem_cons, List.not_mem_nil, or_false] at hs
  rcases hs with rfl | rfl | rfl | rfl | rfl | rfl | rfl <;> exact ⟨by decide, by decide⟩
theorem folk_nma (n : Int) (s : Bag) : NmA (folkV n s) := fun m hm => by
  have h1 : m.nm ∈ (folkV n s).map (·.nm) := List.mem_map.mpr ⟨m, hm, rfl⟩
  unfold folkV at h1
  rw [menR_nm] at h1
  exact List.mem_of_mem_take h1
theorem nice_man {n k : Nat} {m : Man} (h : m.ok) (a : m.nm ∈ allNames) : Nice n (k + 1) (manD m) := by
  obtain ⟨h1, h2, h3, h4⟩ := h
  obtain ⟨a1, a2⟩ := names_asc _ a
  refine nice_tup (by simp) fun x hx => ?_
  have : x = .str m.nm ∨ x = .int m.hv ∨ x = .int m.rc := by simpa using hx
  rcases this with rfl | rfl | rfl
  · exact nice_s a1 a2
  · exact nice_i (by omega)
  · exact nice_i (by omega)
theorem nice_men {n k : Nat} {fs : List Man} (h : Men fs) (a : NmA fs) : ∀ x ∈ fs.map manD, Nice n (k + 1) x := fun x hx => by
  obtain ⟨m, hm, rfl⟩ := List.mem_map.mp hx
  exact nice_man (h.2 m hm) (a m hm)
theorem nice_folk {n k : Nat} {fs : List Man} (h : Men fs) (a : NmA fs) : Nice n (k + 2) (folkD fs) := nice_tup (by rw [List.length_map]; have := h.1; omega) (nice_men h a)
theorem nice_ps {n k : Nat} {ps : List Rat} (h : ∀ p ∈ ps, Sz 13 p) : ∀ x ∈ ps.map rD, Nice n (k + 1) x := fun x hx => by
  obtain ⟨p, hp, rfl⟩ := List.mem_map.mp hx
  exact sz_nice (h p hp) (by omega)
theorem nice_std {n k : Nat} {g : Rat} {ps : List Rat} (hg : Sz 12 g) (hl : ps.length ≤ 7) (h : ∀ p ∈ ps, Sz 13 p) : Nice n (k + 3) (stD g ps) := nice_t2 (sz_nice (k := k + 1) hg (by omega)) (nice_tup (k := k + 1) (by rw [List.length_map]; omega) (nice_ps h))
theorem nc_of {n k : Nat} {d : Dt} (h : Nice n k d) (h1 : n ≤ 5) (h2 : k ≤ 30) : Nc d := ⟨n, k, h1, h2, h⟩
theorem nc_SmP {d : Dt} (h : Nc d) : SmP d := by
  cases d with
  | tuple xs =>
    refine ⟨by have := h.tup.1; omega, fun x hx => ?_⟩
    have h2 := (h.tup.2 _ hx).tup.2
    have a := (h2 (.int x.num) (by simp)).int
    have b := (h2 (.int (x.den : Int)) (by simp)).int
    rw [natAbs_cast] at b
    exact ⟨pw_up a (by omega), pw_up b (by omega)⟩
  | _ => exact True.intro
theorem eight_asc : ∀ c ∈ ("abcdefgh" : Str).cps.toList, c < 128 := by decide +kernel
theorem eight_len : ("abcdefgh" : Str).cps.toList.length = 8 := by decide +kernel
def mkE (c : Nat) : Dt := .tuple [.str ("f" ++ (⟨#[c]⟩ : Str)), .int 1, .int 0]
theorem nice_E {n k c : Nat} (h : c < 128) : Nice n (k + 1) (mkE c) := by
  refine nice_tup (by simp) fun x hx => ?_
  have : x = .str ("f" ++ (⟨#[c]⟩ : Str)) ∨ x = .int 1 ∨ x = .int 0 := by simpa using hx
  rcases this with rfl | rfl | rfl
  · refine nice_s (by rw [len_app]; have : ("f" : Str).length = 1 := by decide
                      have : (⟨#[c]⟩ : Str).length = 1 := rfl
                      omega) (asc_app (by decide) fun x hx => ?_)
    have hx : x = c := by simpa using hx
    rw [hx]; exact h
  · exact nice_i (by decide)
  · exact nice_i (by decide)
def eightL : List Dt := ("abcdefgh" : Str).cps.toList.map mkE
theorem eightL_len : eightL.length = 8 := by unfold eightL; rw [List.length_map, eight_len]
theorem nice_eight {n k : Nat} : ∀ x ∈ eightL, Nice n (k + 1) x := fun x hx => by
  unfold eightL at hx
  obtain ⟨c, hc, rfl⟩ := List.mem_map.mp hx
  exact nice_E (eight_asc c hc)
theorem nice_pick {n k : Nat} {l : List Dt} {i : Int} (h0 : 0 ≤ i) (h1 : i < (l.length : Int)) (h : ∀ x ∈ l, Nice n k x) : Nice n k (pickD l i) := h _ (pick_mem h0 h1)
def intsD (l : List Int) : List Dt := l.map .int
theorem nice_intsD {n k : Nat} {l : List Int} (h : ∀ i ∈ l, i.natAbs ≤ 2000) : ∀ x ∈ intsD l, Nice n k x := fun x hx => by
  obtain ⟨i, hi, rfl⟩ := List.mem_map.mp hx
  exact .int (by have := h i hi; omega)
theorem cut_mem {xs : List Dt} {l h : Option Int} {x : Dt} (hx : x ∈ cutD xs l h) : x ∈ xs := by
  unfold cutD at hx
  exact List.mem_of_mem_drop (List.mem_of_mem_take hx)
theorem cut_len (xs : List Dt) (l h : Option Int) : (cutD xs l h).length ≤ xs.length := by
  unfold cutD
  rw [List.length_take, List.length_drop]; omega
def of4 : List Dt := [.int 0, .int 1, .int 200, .int 201]
def of3 : List Dt := [.int 0, .int 100, .int 101]
def of5 : List Dt := [.int 0, .int 1, .int 1000, .int 1001]
theorem nice_e {n k : Nat} {l : List Dt} (h : l = of4 ∨ l = of3 ∨ l = of5) : ∀ x ∈ l, Nice n k x := fun x hx => by
  rcases h with rfl | rfl | rfl
  · simp only [of4, List.mem_cons, List.not_mem_nil, or_false] at hx
    rcases hx with rfl | rfl | rfl | rfl <;> exact nice_i (by decide)
  · simp only [of3, List.mem_cons, List.not_mem_nil, or_false] at hx
    rcases hx with rfl | rfl | rfl <;> exact nice_i (by decide)
  · simp only [of5, List.mem_cons, List.not_mem_nil, or_false] at hx
    rcases hx with rfl | rfl | rfl | rfl <;> exact .int (by omega)
def ofV (l : List Dt) (s : Bag) : Dt := pickD l (takeV s l.length)
def ofB (l : List Dt) (s : Bag) : Bag := takeB s l.length
theorem nice_of {n k : Nat} {l : List Dt} {s : Bag} (h : l = of4 ∨ l = of3 ∨ l = of5) : Nice n k (ofV l s) := by
  have h0 : 0 < l.length := by rcases h with rfl | rfl | rfl <;> decide
  exact nice_pick (take_lo s (by omega)) (take_hi s (by omega)) (nice_e h)
theorem ofB_ok {l : List Dt} {s : Bag} (h : 0 < l.length) (hs : s.ok) : (ofB l s).ok := take_ok (by omega) hs
def spL (D : Nat) : List Dt → Bag → List Dt × Bag
  | [], s => ([], s)
  | d :: ds, s => ((spR D d s).1 :: (spL D ds (spR D d s).2).1, (spL D ds (spR D d s).2).2)
theorem spL_take (D : Nat) : ∀ {ds : List Dt} {i : Nat} {d : Dt} {s : Bag}, ds[i]? = some d → spL D (ds.take (i + 1)) s = ((spL D (ds.take i) s).1 ++ [(spR D d (spL D (ds.take i) s).2).1], (spR D d (spL D (ds.take i) s).2).2)
  | x :: ds, 0, d, s, h => by
    have h := Option.some.inj h
    subst h
    simp [spL]
  | x :: ds, i + 1, d, s, h => by
    have ih := spL_take D (ds := ds) (i := i) (s := (spR D x s).2) h
    simp only [List.take_succ_cons, spL]
    rw [ih]; rfl
  | [], i, d, s, h => by simp at h
theorem spL_ok (D : Nat) : ∀ (ds : List Dt) {s : Bag}, s.ok → (spL D ds s).2.ok
  | [], _, h => h
  | d :: ds, _, h => spL_ok D ds (spR_ok D d h)
theorem spL_len (D : Nat) : ∀ (ds : List Dt) (s : Bag), (spL D ds s).1.length = ds.length
  | [], _ => rfl
  | d :: ds, s => by simp only [spL, List.length_cons]; rw [spL_len D ds]
end Rw
/-! RwJ: displays item by item; x in a list of data; stores to captured names. -/
namespace Rw
open PySem PySem.Spec PyProof.Rows L2
section
variable {X : Cx} {env env1 : LE} {μ μ0 μ1 μ2 μ3 μ4 μ5 μ6 μ7 μ8 : MU} {x y z w : DE} {a b c e o tg iter elt : Expr} {es : List Expr} {p pos p1 p2 p3 pT : Pos} {elts : List Expr} {kk : Nat} {D : DN} {i j : Int}
theorem ev_tup0 {m0 : MU} {jj : Nat}   : Ev X (.Tuple [] jj pos) env m0 m0 (.d (.tuple [])) := ev_tup (ds := []) ea_nil (ln (by simp))
theorem ev_tup1 {a1 : Expr} {d1 : Dt} {m0 m1 : MU} {jj : Nat} (h1 : Ev X a1 env m0 m1 (.d d1)) (s1 : starEach [a1] X.env = (false, eval a1 X.env) :: starEach [] X.env := by rfl) : Ev X (.Tuple [a1] jj pos) env m0 m1 (.d (.tuple [d1])) := ev_tup (ds := [d1]) (ea_cons h1 ea_nil s1) (ln (by simp))
theorem ev_tup2 {a1 a2 : Expr} {d1 d2 : Dt} {m0 m1 m2 : MU} {jj : Nat} (h1 : Ev X a1 env m0 m1 (.d d1)) (h2 : Ev X a2 env m1 m2 (.d d2)) (s1 : starEach [a1, a2] X.env = (false, eval a1 X.env) :: starEach [a2] X.env := by rfl) (s2 : starEach [a2] X.env = (false, eval a2 X.env) :: starEach [] X.env := by rfl) : Ev X (.Tuple [a1, a2] jj pos) env m0 m2 (.d (.tuple [d1, d2])) := ev_tup (ds := [d1, d2]) (ea_cons h1 (ea_cons h2 ea_nil s2) s1) (ln (by simp))
theorem ev_tup3 {a1 a2 a3 : Expr} {d1 d2 d3 : Dt} {m0 m1 m2 m3 : MU} {jj : Nat} (h1 : Ev X a1 env m0 m1 (.d d1)) (h2 : Ev X a2 env m1 m2 (.d d2)) (h3 : Ev X a3 env m2 m3 (.d d3)) (s1 : starEach [a1, a2, a3] X.env = (false, eval a1 X.env) :: starEach [a2, a3] X.env := by rfl) (s2 : starEach [a2, a3] X.env = (false, eval a2 X.env) :: starEach [a3] X.env := by rfl) (s3 : starEach [a3] X.env = (false, eval a3 X.env) :: starEach [] X.env := by rfl) : Ev X (.Tuple [a1, a2, a3] jj pos) env m0 m3 (.d (.tuple [d1, d2, d3])) := ev_tup (ds := [d1, d2, d3]) (ea_cons h1 (ea_cons h2 (ea_cons h3 ea_nil s3) s2) s1) (ln (by simp))
theorem ev_tup4 {a1 a2 a3 a4 : Expr} {d1 d2 d3 d4 : Dt} {m0 m1 m2 m3 m4 : MU} {jj : Nat} (h1 : Ev X a1 env m0 m1 (.d d1)) (h2 : Ev X a2 env m1 m2 (.d d2)) (h3 : Ev X a3 env m2 m3 (.d d3)) (h4 : Ev X a4 env m3 m4 (.d d4)) (s1 : starEach [a1, a2, a3, a4] X.env = (false, eval a1 X.env) :: starEach [a2, a3, a4] X.env := by rfl) (s2 : starEach [a2, a3, a4] X.env = (false, eval a2 X.env) :: starEach [a3, a4] X.env := by rfl) (s3 : starEach [a3, a4] X.env = (false, eval a3 X.env) :: starEach [a4] X.env := by rfl) (s4 : starEach [a4] X.env = (false, eval a4 X.env) :: starEach [] X.env := by rfl) : Ev X (.Tuple [a1, a2, a3, a4] jj pos) env m0 m4 (.d (.tuple [d1, d2, d3, d4])) := ev_tup (ds := [d1, d2, d3, d4]) (ea_cons h1 (ea_cons h2 (ea_cons h3 (ea_cons h4 ea_nil s4) s3) s2) s1) (ln (by simp))
theorem ev_lst0 {m0 : MU}    : Ev X (.List [] pos) env m0 m0 (.d (.list [])) := ev_lst (ds := []) ea_nil (ln (by simp))
theorem ev_lst1 {a1 : Expr} {d1 : Dt} {m0 m1 : MU}  (h1 : Ev X a1 env m0 m1 (.d d1)) (s1 : starEach [a1] X.env = (false, eval a1 X.env) :: starEach [] X.env := by rfl) : Ev X (.List [a1] pos) env m0 m1 (.d (.list [d1])) := ev_lst (ds := [d1]) (ea_cons h1 ea_nil s1) (ln (by simp))
theorem ev_lst2 {a1 a2 : Expr} {d1 d2 : Dt} {m0 m1 m2 : MU}  (h1 : Ev X a1 env m0 m1 (.d d1)) (h2 : Ev X a2 env m1 m2 (.d d2)) (s1 : starEach [a1, a2] X.env = (false, eval a1 X.env) :: starEach [a2] X.env := by rfl) (s2 : starEach [a2] X.env = (false, eval a2 X.env) :: starEach [] X.env := by rfl) : Ev X (.List [a1, a2] pos) env m0 m2 (.d (.list [d1, d2])) := ev_lst (ds := [d1, d2]) (ea_cons h1 (ea_cons h2 ea_nil s2) s1) (ln (by simp))
theorem ev_lst3 {a1 a2 a3 : Expr} {d1 d2 d3 : Dt} {m0 m1 m2 m3 : MU}  (h1 : Ev X a1 env m0 m1 (.d d1)) (h2 : Ev X a2 env m1 m2 (.d d2)) (h3 : Ev X a3 env m2 m3 (.d d3)) (s1 : starEach [a1, a2, a3] X.env = (false, eval a1 X.env) :: starEach [a2, a3] X.env := by rfl) (s2 : starEach [a2, a3] X.env = (false, eval a2 X.env) :: starEach [a3] X.env := by rfl) (s3 : starEach [a3] X.env = (false, eval a3 X.env) :: starEach [] X.env := by rfl) : Ev X (.List [a1, a2, a3] pos) env m0 m3 (.d (.list [d1, d2, d3])) := ev_lst (ds := [d1, d2, d3]) (ea_cons h1 (ea_cons h2 (ea_cons h3 ea_nil s3) s2) s1) (ln (by simp))
theorem ev_lst4 {a1 a2 a3 a4 : Expr} {d1 d2 d3 d4 : Dt} {m0 m1 m2 m3 m4 : MU}  (h1 : Ev X a1 env m0 m1 (.d d1)) (h2 : Ev X a2 env m1 m2 (.d d2)) (h3 : Ev X a3 env m2 m3 (.d d3)) (h4 : Ev X a4 env m3 m4 (.d d4)) (s1 : starEach [a1, a2, a3, a4] X.env = (false, eval a1 X.env) :: starEach [a2, a3, a4] X.env := by rfl) (s2 : starEach [a2, a3, a4] X.env = (false, eval a2 X.env) :: starEach [a3, a4] X.env := by rfl) (s3 : starEach [a3, a4] X.env = (false, eval a3 X.env) :: starEach [a4] X.env := by rfl) (s4 : starEach [a4] X.env = (false, eval a4 X.env) :: starEach [] X.env := by rfl) : Ev X (.List [a1, a2, a3, a4] pos) env m0 m4 (.d (.list [d1, d2, d3, d4])) := ev_lst (ds := [d1, d2, d3, d4]) (ea_cons h1 (ea_cons h2 (ea_cons h3 (ea_cons h4 ea_nil s4) s3) s2) s1) (ln (by simp))
theorem ev_lst5 {a1 a2 a3 a4 a5 : Expr} {d1 d2 d3 d4 d5 : Dt} {m0 m1 m2 m3 m4 m5 : MU}  (h1 : Ev X a1 env m0 m1 (.d d1)) (h2 : Ev X a2 env m1 m2 (.d d2)) (h3 : Ev X a3 env m2 m3 (.d d3)) (h4 : Ev X a4 env m3 m4 (.d d4)) (h5 : Ev X a5 env m4 m5 (.d d5)) (s1 : starEach [a1, a2, a3, a4, a5] X.env = (false, eval a1 X.env) :: starEach [a2, a3, a4, a5] X.env := by rfl) (s2 : starEach [a2, a3, a4, a5] X.env = (false, eval a2 X.env) :: starEach [a3, a4, a5] X.env := by rfl) (s3 : starEach [a3, a4, a5] X.env = (false, eval a3 X.env) :: starEach [a4, a5] X.env := by rfl) (s4 : starEach [a4, a5] X.env = (false, eval a4 X.env) :: starEach [a5] X.env := by rfl) (s5 : starEach [a5] X.env = (false, eval a5 X.env) :: starEach [] X.env := by rfl) : Ev X (.List [a1, a2, a3, a4, a5] pos) env m0 m5 (.d (.list [d1, d2, d3, d4, d5])) := ev_lst (ds := [d1, d2, d3, d4, d5]) (ea_cons h1 (ea_cons h2 (ea_cons h3 (ea_cons h4 (ea_cons h5 ea_nil s5) s4) s3) s2) s1) (ln (by simp))
theorem ev_lst6 {a1 a2 a3 a4 a5 a6 : Expr} {d1 d2 d3 d4 d5 d6 : Dt} {m0 m1 m2 m3 m4 m5 m6 : MU}  (h1 : Ev X a1 env m0 m1 (.d d1)) (h2 : Ev X a2 env m1 m2 (.d d2)) (h3 : Ev X a3 env m2 m3 (.d d3)) (h4 : Ev X a4 env m3 m4 (.d d4)) (h5 : Ev X a5 env m4 m5 (.d d5)) (h6 : Ev X a6 env m5 m6 (.d d6)) (s1 : starEach [a1, a2, a3, a4, a5, a6] X.env = (false, eval a1 X.env) :: starEach [a2, a3, a4, a5, a6] X.env := by rfl) (s2 : starEach [a2, a3, a4, a5, a6] X.env = (false, eval a2 X.env) :: starEach [a3, a4, a5, a6] X.env := by rfl) (s3 : starEach [a3, a4, a5, a6] X.env = (false, eval a3 X.env) :: starEach [a4, a5, a6] X.env := by rfl) (s4 : starEach [a4, a5, a6] X.env = (false, eval a4 X.env) :: starEach [a5, a6] X.env := by rfl) (s5 : starEach [a5, a6] X.env = (false, eval a5 X.env) :: starEach [a6] X.env := by rfl) (s6 : starEach [a6] X.env = (false, eval a6 X.env) :: starEach [] X.env := by rfl) : Ev X (.List [a1, a2, a3, a4, a5, a6] pos) env m0 m6 (.d (.list [d1, d2, d3, d4, d5, d6])) := ev_lst (ds := [d1, d2, d3, d4, d5, d6]) (ea_cons h1 (ea_cons h2 (ea_cons h3 (ea_cons h4 (ea_cons h5 (ea_cons h6 ea_nil s6) s5) s4) s3) s2) s1) (ln (by simp))
theorem ev_lst7 {a1 a2 a3 a4 a5 a6 a7 : Expr} {d1 d2 d3 d4 d5 d6 d7 : Dt} {m0 m1 m2 m3 m4 m5 m6 m7 : MU}  (h1 : Ev X a1 env m0 m1 (.d d1)) (h2 : Ev X a2 env m1 m2 (.d d2)) (h3 : Ev X a3 env m2 m3 (.d d3)) (h4 : Ev X a4 env m3 m4 (.d d4)) (h5 : Ev X a5 env m4 m5 (.d d5)) (h6 : Ev X a6 env m5 m6 (.d d6)) (h7 : Ev X a7 env m6 m7 (.d d7)) (s1 : starEach [a1, a2, a3, a4, a5, a6, a7] X.env = (false, eval a1 X.env) :: starEach [a2, a3, a4, a5, a6, a7] X.env := by rfl) (s2 : starEach [a2, a3, a4, a5, a6, a7] X.env = (false, eval a2 X.env) :: starEach [a3, a4, a5, a6, a7] X.env := by rfl) (s3 : starEach [a3, a4, a5, a6, a7] X.env = (false, eval a3 X.env) :: starEach [a4, a5, a6, a7] X.env := by rfl) (s4 : starEach [a4, a5, a6, a7] X.env = (false, eval a4 X.env) :: starEach [a5, a6, a7] X.env := by rfl) (s5 : starEach [a5, a6, a7] X.env = (false, eval a5 X.env) :: starEach [a6, a7] X.env := by rfl) (s6 : starEach [a6, a7] X.env = (false, eval a6 X.env) :: starEach [a7] X.env := by rfl) (s7 : starEach [a7] X.env = (false, eval a7 X.env) :: starEach [] X.env := by rfl) : Ev X (.List [a1, a2, a3, a4, a5, a6, a7] pos) env m0 m7 (.d (.list [d1, d2, d3, d4, d5, d6, d7])) := ev_lst (ds := [d1, d2, d3, d4, d5, d6, d7]) (ea_cons h1 (ea_cons h2 (ea_cons h3 (ea_cons h4 (ea_cons h5 (ea_cons h6 (ea_cons h7 ea_nil s7) s6) s5) s4) s3) s2) s1) (ln (by simp))
theorem ev_lst8 {a1 a2 a3 a4 a5 a6 a7 a8 : Expr} {d1 d2 d3 d4 d5 d6 d7 d8 : Dt} {m0 m1 m2 m3 m4 m5 m6 m7 m8 : MU}  (h1 : Ev X a1 env m0 m1 (.d d1)) (h2 : Ev X a2 env m1 m2 (.d d2)) (h3 : Ev X a3 env m2 m3 (.d d3)) (h4 : Ev X a4 env m3 m4 (.d d4)) (h5 : Ev X a5 env m4 m5 (.d d5)) (h6 : Ev X a6 env m5 m6 (.d d6)) (h7 : Ev X a7 env m6 m7 (.d d7)) (h8 : Ev X a8 env m7 m8 (.d d8)) (s1 : starEach [a1, a2, a3, a4, a5, a6, a7, a8] X.env = (false, eval a1 X.env) :: starEach [a2, a3, a4, a5, a6, a7, a8] X.env := by rfl) (s2 : starEach [a2, a3, a4, a5, a6, a7, a8] X.env = (false, eval a2 X.env) :: starEach [a3, a4, a5, a6, a7, a8] X.env := by rfl) (s3 : starEach [a3, a4, a5, a6, a7, a8] X.env = (false, eval a3 X.env) :: starEach [a4, a5, a6, a7, a8] X.env := by rfl) (s4 : starEach [a4, a5, a6, a7, a8] X.env = (false, eval a4 X.env) :: starEach [a5, a6, a7, a8] X.env := by rfl) (s5 : starEach [a5, a6, a7, a8] X.env = (false, eval a5 X.env) :: starEach [a6, a7, a8] X.env := by rfl) (s6 : starEach [a6, a7, a8] X.env = (false, eval a6 X.env) :: starEach [a7, a8] X.env := by rfl) (s7 : starEach [a7, a8] X.env = (false, eval a7 X.env) :: starEach [a8] X.env := by rfl) (s8 : starEach [a8] X.env = (false, eval a8 X.env) :: starEach [] X.env := by rfl) : Ev X (.List [a1, a2, a3, a4, a5, a6, a7, a8] pos) env m0 m8 (.d (.list [d1, d2, d3, d4, d5, d6, d7, d8])) := ev_lst (ds := [d1, d2, d3, d4, d5, d6, d7, d8]) (ea_cons h1 (ea_cons h2 (ea_cons h3 (ea_cons h4 (ea_cons h5 (ea_cons h6 (ea_cons h7 (ea_cons h8 ea_nil s8) s7) s6) s5) s4) s3) s2) s1) (ln (by simp))
theorem ev_lst9 {a1 a2 a3 a4 a5 a6 a7 a8 a9 : Expr} {d1 d2 d3 d4 d5 d6 d7 d8 d9 : Dt} {m0 m1 m2 m3 m4 m5 m6 m7 m8 m9 : MU}  (h1 : Ev X a1 env m0 m1 (.d d1)) (h2 : Ev X a2 env m1 m2 (.d d2)) (h3 : Ev X a3 env m2 m3 (.d d3)) (h4 : Ev X a4 env m3 m4 (.d d4)) (h5 : Ev X a5 env m4 m5 (.d d5)) (h6 : Ev X a6 env m5 m6 (.d d6)) (h7 : Ev X a7 env m6 m7 (.d d7)) (h8 : Ev X a8 env m7 m8 (.d d8)) (h9 : Ev X a9 env m8 m9 (.d d9)) (s1 : starEach [a1, a2, a3, a4, a5, a6, a7, a8, a9] X.env = (false, eval a1 X.env) :: starEach [a2, a3, a4, a5, a6, a7, a8, a9] X.env := by rfl) (s2 : starEach [a2, a3, a4, a5, a6, a7, a8, a9] X.env = (false, eval a2 X.env) :: starEach [a3, a4, a5, a6, a7, a8, a9] X.env := by rfl) (s3 : starEach [a3, a4, a5, a6, a7, a8, a9] X.env = (false, eval a3 X.env) :: starEach [a4, a5, a6, a7, a8, a9] X.env := by rfl) (s4 : starEach [a4, a5, a6, a7, a8, a9] X.env = (false, eval a4 X.env) :: starEach [a5, a6, a7, a8, a9] X.env := by rfl) (s5 : starEach [a5, a6, a7, a8, a9] X.env = (false, eval a5 X.env) :: starEach [a6, a7, a8, a9] X.env := by rfl) (s6 : starEach [a6, a7, a8, a9] X.env = (false, eval a6 X.env) :: starEach [a7, a8, a9] X.env := by rfl) (s7 : starEach [a7, a8, a9] X.env = (false, eval a7 X.env) :: starEach [a8, a9] X.env := by rfl) (s8 : starEach [a8, a9] X.env = (false, eval a8 X.env) :: starEach [a9] X.env := by rfl) (s9 : starEach [a9] X.env = (false, eval a9 X.env) :: starEach [] X.env := by rfl) : Ev X (.List [a1, a2, a3, a4, a5, a6, a7, a8, a9] pos) env m0 m9 (.d (.list [d1, d2, d3, d4, d5, d6, d7, d8, d9])) := ev_lst (ds := [d1, d2, d3, d4, d5, d6, d7, d8, d9]) (ea_cons h1 (ea_cons h2 (ea_cons h3 (ea_cons h4 (ea_cons h5 (ea_cons h6 (ea_cons h7 (ea_cons h8 (ea_cons h9 ea_nil s9) s8) s7) s6) s5) s4) s3) s2) s1) (ln (by simp))
theorem ev_lst10 {a1 a2 a3 a4 a5 a6 a7 a8 a9 a10 : Expr} {d1 d2 d3 d4 d5 d6 d7 d8 d9 d10 : Dt} {m0 m1 m2 m3 m4 m5 m6 m7 m8 m9 m10 : MU}  (h1 : Ev X a1 env m0 m1 (.d d1)) (h2 : Ev X a2 env m1 m2 (.d d2)) (h3 : Ev X a3 env m2 m3 (.d d3)) (h4 : Ev X a4 env m3 m4 (.d d4)) (h5 : Ev X a5 env m4 m5 (.d d5)) (h6 : Ev X a6 env m5 m6 (.d d6)) (h7 : Ev X a7 env m6 m7 (.d d7)) (h8 : Ev X a8 env m7 m8 (.d d8)) (h9 : Ev X a9 env m8 m9 (.d d9)) (h10 : Ev X a10 env m9 m10 (.d d10)) (s1 : starEach [a1, a2, a3, a4, a5, a6, a7, a8, a9, a10] X.env = (false, eval a1 X.env) :: starEach [a2, a3, a4, a5, a6, a7, a8, a9, a10] X.env := by rfl) (s2 : starEach [a2, a3, a4, a5, a6, a7, a8, a9, a10] X.env = (false, eval a2 X.env) :: starEach [a3, a4, a5, a6, a7, a8, a9, a10] X.env := by rfl) (s3 : starEach [a3, a4, a5, a6, a7, a8, a9, a10] X.env = (false, eval a3 X.env) :: starEach [a4, a5, a6, a7, a8, a9, a10] X.env := by rfl) (s4 : starEach [a4, a5, a6, a7, a8, a9, a10] X.env = (false, eval a4 X.env) :: starEach [a5, a6, a7, a8, a9, a10] X.env := by rfl) (s5 : starEach [a5, a6, a7, a8, a9, a10] X.env = (false, eval a5 X.env) :: starEach [a6, a7, a8, a9, a10] X.env := by rfl) (s6 : starEach [a6, a7, a8, a9, a10] X.env = (false, eval a6 X.env) :: starEach [a7, a8, a9, a10] X.env := by rfl) (s7 : starEach [a7, a8, a9, a10] X.env = (false, eval a7 X.env) :: starEach [a8, a9, a10] X.env := by rfl) (s8 : starEach [a8, a9, a10] X.env = (false, eval a8 X.env) :: starEach [a9, a10] X.env := by rfl) (s9 : starEach [a9, a10] X.env = (false, eval a9 X.env) :: starEach [a10] X.env := by rfl) (s10 : starEach [a10] X.env = (false, eval a10 X.env) :: starEach [] X.env := by rfl) : Ev X (.List [a1, a2, a3, a4, a5, a6, a7, a8, a9, a10] pos) env m0 m10 (.d (.list [d1, d2, d3, d4, d5, d6, d7, d8, d9, d10])) := ev_lst (ds := [d1, d2, d3, d4, d5, d6, d7, d8, d9, d10]) (ea_cons h1 (ea_cons h2 (ea_cons h3 (ea_cons h4 (ea_cons h5 (ea_cons h6 (ea_cons h7 (ea_cons h8 (ea_cons h9 (ea_cons h10 ea_nil s10) s9) s8) s7) s6) s5) s4) s3) s2) s1) (ln (by simp))
theorem ev_lst11 {a1 a2 a3 a4 a5 a6 a7 a8 a9 a10 a11 : Expr} {d1 d2 d3 d4 d5 d6 d7 d8 d9 d10 d11 : Dt} {m0 m1 m2 m3 m4 m5 m6 m7 m8 m9 m10 m11 : MU}  (h1 : Ev X a1 env m0 m1 (.d d1)) (h2 : Ev X a2 env m1 m2 (.d d2)) (h3 : Ev X a3 env m2 m3 (.d d3)) (h4 : Ev X a4 env m3 m4 (.d d4)) (h5 : Ev X a5 env m4 m5 (.d d5)) (h6 : Ev X a6 env m5 m6 (.d d6)) (h7 : Ev X a7 env m6 m7 (.d d7)) (h8 : Ev X a8 env m7 m8 (.d d8)) (h9 : Ev X a9 env m8 m9 (.d d9)) (h10 : Ev X a10 env m9 m10 (.d d10)) (h11 : Ev X a11 env m10 m11 (.d d11)) (s1 : starEach [a1, a2, a3, a4, a5, a6, a7, a8, a9, a10, a11] X.env = (false, eval a1 X.env) :: starEach [a2, a3, a4, a5, a6, a7, a8, a9, a10, a11] X.env := by rfl) (s2 : starEach [a2, a3, a4, a5, a6, a7, a8, a9, a10, a11] X.env = (false, eval a2 X.env) :: starEach [a3, a4, a5, a6, a7, a8, a9, a10, a11] X.env := by rfl) (s3 : starEach [a3, a4, a5, a6, a7, a8, a9, a10, a11] X.env = (false, eval a3 X.env) :: starEach [a4, a5, a6, a7, a8, a9, a10, a11] X.env := by rfl) (s4 : starEach [a4, a5, a6, a7, a8, a9, a10, a11] X.env = (false, eval a4 X.env) :: starEach [a5, a6, a7, a8, a9, a10, a11] X.env := by rfl) (s5 : starEach [a5, a6, a7, a8, a9, a10, a11] X.env = (false, eval a5 X.env) :: starEach [a6, a7, a8, a9, a10, a11] X.env := by rfl) (s6 : starEach [a6, a7, a8, a9, a10, a11] X.env = (false, eval a6 X.env) :: starEach [a7, a8, a9, a10, a11] X.env := by rfl) (s7 : starEach [a7, a8, a9, a10, a11] X.env = (false, eval a7 X.env) :: starEach [a8, a9, a10, a11] X.env := by rfl) (s8 : starEach [a8, a9, a10, a11] X.env = (false, eval a8 X.env) :: starEach [a9, a10, a11] X.env := by rfl) (s9 : starEach [a9, a10, a11] X.env = (false, eval a9 X.env) :: starEach [a10, a11] X.env := by rfl) (s10 : starEach [a10, a11] X.env = (false, eval a10 X.env) :: starEach [a11] X.env := by rfl) (s11 : starEach [a11] X.env = (false, eval a11 X.env) :: starEach [] X.env := by rfl) : Ev X (.List [a1, a2, a3, a4, a5, a6, a7, a8, a9, a10, a11] pos) env m0 m11 (.d (.list [d1, d2, d3, d4, d5, d6, d7, d8, d9, d10, d11])) := ev_lst (ds := [d1, d2, d3, d4, d5, d6, d7, d8, d9, d10, d11]) (ea_cons h1 (ea_cons h2 (ea_cons h3 (ea_cons h4 (ea_cons h5 (ea_cons h6 (ea_cons h7 (ea_cons h8 (ea_cons h9 (ea_cons h10 (ea_cons h11 ea_nil s11) s10) s9) s8) s7) s6) s5) s4) s3) s2) s1) (ln (by simp))
theorem ev_lstC0 {m0 : MU}    : Ev X (.List [] pos) env m0 (m0 ++ [some (Cl.lst [])]) (.c m0.length) := ev_lstC (ds := []) ea_nil (ln (by simp))
theorem ev_lstC1 {a1 : Expr} {d1 : Dt} {m0 m1 : MU}  (h1 : Ev X a1 env m0 m1 (.d d1)) (s1 : starEach [a1] X.env = (false, eval a1 X.env) :: starEach [] X.env := by rfl) : Ev X (.List [a1] pos) env m0 (m1 ++ [some (Cl.lst [d1])]) (.c m1.length) := ev_lstC (ds := [d1]) (ea_cons h1 ea_nil s1) (ln (by simp))
theorem ev_lstC2 {a1 a2 : Expr} {d1 d2 : Dt} {m0 m1 m2 : MU}  (h1 : Ev X a1 env m0 m1 (.d d1)) (h2 : Ev X a2 env m1 m2 (.d d2)) (s1 : starEach [a1, a2] X.env = (false, eval a1 X.env) :: starEach [a2] X.env := by rfl) (s2 : starEach [a2] X.env = (false, eval a2 X.env) :: starEach [] X.env := by rfl) : Ev X (.List [a1, a2] pos) env m0 (m2 ++ [some (Cl.lst [d1, d2])]) (.c m2.length) := ev_lstC (ds := [d1, d2]) (ea_cons h1 (ea_cons h2 ea_nil s2) s1) (ln (by simp))
/-- list + list, lists of any standing -/
def rCatL (K : PySem.W.Frag) : R2 := fun v w H Q => ∃ l b xs zs, v = .ref l ∧ w = .ref b ∧ SqL K H l xs ∧ SqL K H b zs ∧ xs.length + zs.length ≤ sizeLine ∧ ∀ p, H p = none → Q (.ref p) (upd H p (.lst (xs ++ zs)))
theorem op_catL : OpR X (binaryOp .Add) (rCatL X.K) := by
  intro pins s σ H x y v u Q I rx ry h
  obtain ⟨l, b, xs, zs, rfl, rfl, hH, hB, hz, q⟩ := h
  cases rx
  cases ry
  obtain ⟨its, r, hl, _⟩ := I.list hH
  obtain ⟨its2, r2, hb, _⟩ := I.list hB
  obtain ⟨⟨cls, dd, data, sl⟩, ho, hc, n, hd⟩ := hl.isList
  obtain ⟨⟨cls2, dd2, data2, sl2⟩, ho2, hc2, n2, hd2⟩ := hb.isList
  simp only at hc hd hc2 hd2
  subst hc hd hc2 hd2
  have hl1 := r.length
  have hl2 := r2.length
  refine concat_meets ⟨_, ho, rfl⟩ ⟨_, ho2, rfl⟩ noFill_list_add seq_list_add PySem.F.slot_list_add PySem.F.entry_list_add (PySem.F.args_list_add_2 _ _) (list_addW l b its.toArray its2.toArray n n2 dd dd2 sl sl2 (by rw [List.size_toArray, List.size_toArray]; omega)) ⟨ho, ho2, ?_⟩
  have ea : its.toArray ++ its2.toArray = (its ++ its2).toArray := by simp
  rw [ea]
  exact ⟨.ref _, _, I.lnew (t' := s.toks) (r.append r2) (by rw [List.length_append]; omega), rfl, q _ I.fresh⟩
theorem ev_catL {us ws : List Dt} (ha : Ev X a env μ μ1 x) (hb : Ev X b env μ1 μ2 y) (e1 : Dv μ2 x (.list us)) (e2 : Dv μ2 y (.list ws)) (hc : us.length + ws.length ≤ 1000) : Ev X (.BinOp a .Add b pos) env μ μ2 (.d (.list (us ++ ws))) := ev_addL ha hb e1 e2 (ln hc) op_catL
theorem ev_catLC {us ws : List Dt} (ha : Ev X a env μ μ1 x) (hb : Ev X b env μ1 μ2 y) (e1 : Dv μ2 x (.list us)) (e2 : Dv μ2 y (.list ws)) (hc : us.length + ws.length ≤ 1000) : Ev X (.BinOp a .Add b pos) env μ (μ2 ++ [some (Cl.lst (us ++ ws))]) (.c μ2.length) := by
  refine ev_op op_catL ha hb fun G H A v w S r1 r2 Q q => ?_
  obtain ⟨p1, xs, rfl, t1, d1⟩ := r1.lst S e1
  obtain ⟨p2, ys, rfl, t2, d2⟩ := r2.lst S e2
  exact ⟨p1, p2, xs, ys, rfl, rfl, t1, t2, by rw [dpa_len d1, dpa_len d2]; exact ln hc, fun p hp => q.newC S hp (dpa_app d1 d2)⟩
/-- x in a list of data -/
theorem c_inD {d : Dt} {ds : List Dt} (hu : X.A.units + 65 < cLine) (e1 : Dv μ x d) (e2 : Dv μ y (.list ds)) (h1 : SeqAt.shaped d = true) (h2 : SeqAt.shaped (.list ds) = true) : CmpD X .In x y μ (ds.any fun z => PyData.eqv z d) :=
  ⟨_, op_inD hu, fun G H A v w S r1 r2 Q q => ⟨d, ds, r1.dp S e1, r2.dp S e2, h1, h2, q.now S (.d (.bl _))⟩⟩
theorem c_ninD {d : Dt} {ds : List Dt} (hu : X.A.units + 65 < cLine) (e1 : Dv μ x d) (e2 : Dv μ y (.list ds)) (h1 : SeqAt.shaped d = true) (h2 : SeqAt.shaped (.list ds) = true) : CmpD X .NotIn x y μ (!ds.any fun z => PyData.eqv z d) :=
  ⟨_, op_notInD hu, fun G H A v w S r1 r2 Q q => ⟨d, ds, r1.dp S e1, r2.dp S e2, h1, h2, q.now S (.d (.bl _))⟩⟩
theorem CmpD.is {op : CmpOp} {k k' : Bool} (h : CmpD X op x y μ k) (e : k = k') : CmpD X op x y μ k' := e ▸ h
theorem et_is {k k' : Bool} (h : EvT X a env μ μ1 k) (e : k = k') : EvT X a env μ μ1 k' := e ▸ h
end
theorem units65 {k : Nat} {A : Around} (r : Room k A) : A.units + 65 < cLine := by have := r.un; omega
end Rw
/-! Rw9: an unseen weight. -/
namespace Rw
open PySem L2
theorem num_sgn (x : Rat) : (0 < x.num ↔ 0 < x) ∧ (x.num < 0 ↔ x < 0) ∧ (x.num = 0 ↔ x = 0) := by
  refine ⟨?_, ?_, ?_⟩
  · have := Rat.lt_iff 0 x; simp at this; exact this.symm
  · have := Rat.lt_iff x 0; simp at this; exact this.symm
  · exact Rat.num_eq_zero
theorem num_mul_le (l e : Rat) : decide (l.num * e.num ≤ 0) = decide (l * e ≤ 0) := by
  rw [decide_eq_decide]
  obtain ⟨l1, l2, l3⟩ := num_sgn l
  obtain ⟨e1, e2, e3⟩ := num_sgn e
  have tri : ∀ n : Int, 0 < n ∨ n < 0 ∨ n = 0 := fun n => by omega
  rcases tri l.num with a | a | a <;> rcases tri e.num with b | b | b
  · have h1 := Int.mul_pos a b
    have h2 := Rat.mul_pos (l1.mp a) (e1.mp b)
    constructor
    · intro h; omega
    · intro h; exact absurd h2 (Rat.not_lt.mpr h)
  · have h1 : l.num * e.num < 0 := Int.mul_neg_of_pos_of_neg a b
    have h2 : l * e < 0 := by
      have := Rat.mul_pos (l1.mp a) (show 0 < -e by have := e2.mp b; grind)
      grind
    exact ⟨fun _ => Rat.le_of_lt h2, fun _ => by omega⟩
  · rw [b, e3.mp b]; simp
  · have h1 : l.num * e.num < 0 := Int.mul_neg_of_neg_of_pos a b
    have h2 : l * e < 0 := by
      have := Rat.mul_pos (show 0 < -l by have := l2.mp a; grind) (e1.mp b)
      grind
    exact ⟨fun _ => Rat.le_of_lt h2, fun _ => by omega⟩
  · have h1 : 0 < l.num * e.num := Int.mul_pos_of_neg_of_neg a b
    have h2 : 0 < l * e := by
      have := Rat.mul_pos (show 0 < -l by have := l2.mp a; grind) (show 0 < -e by have := e2.mp b; grind)
      grind
    constructor
    · intro h; omega
    · intro h; exact absurd h2 (Rat.not_lt.mpr h)
  · rw [b, e3.mp b]; simp
  · rw [a, l3.mp a]; simp
  · rw [a, l3.mp a]; simp
  · rw [a, l3.mp a]; simp
theorem rat_parts (x : Rat) : x = (x.num : Rat) / (x.den : Rat) := by rw [← Rat.mkRat_eq_div, Rat.mkRat_self]
theorem den_ne (x : Rat) : ((x.den : Nat) : Rat) ≠ 0 := fun z => x.den_nz (Rat.natCast_eq_zero_iff.mp z)
theorem mk_quot {l e : Rat} (h : 0 < l * e) : mkRat ((l.num.natAbs : Int) * (e.den : Int)) ((l.den : Int) * (e.num.natAbs : Int)).toNat = l / e := by
  have e0 : e ≠ 0 := by intro z; rw [z] at h; simp at h
  have hn : ((e.num : Int) : Rat) ≠ 0 := by
    intro z
    have : e.num = 0 := Rat.intCast_eq_zero_iff.mp z
    exact e0 (Rat.num_eq_zero.mp this)
  have hd := den_ne l
  have hd2 := den_ne e
  rw [← Int.natCast_mul l.den, Int.toNat_natCast, Rat.mkRat_eq_div, Rat.natCast_mul, Rat.intCast_mul, Rat.intCast_natCast, Rat.intCast_natCast]
  have key : ((l.num.natAbs : Nat) : Rat) * (e.num : Rat) = (l.num : Rat) * ((e.num.natAbs : Nat) : Rat) := by
    have hz : (l.num.natAbs : Int) * e.num = l.num * (e.num.natAbs : Int) := by
      obtain ⟨l1, l2, _⟩ := num_sgn l
      obtain ⟨e1, e2, _⟩ := num_sgn e
      have tri : ∀ n : Int, 0 < n ∨ n < 0 ∨ n = 0 := fun n => by omega
      rcases tri l.num with a | a | a <;> rcases tri e.num with b | b | b
      · rw [Int.natAbs_of_nonneg (by omega), Int.natAbs_of_nonneg (by omega)]
      · have := Rat.mul_pos (l1.mp a) (show 0 < -e by have := e2.mp b; grind)
        exfalso; grind
      · rw [b]; simp
      · have := Rat.mul_pos (show 0 < -l by have := l2.mp a; grind) (e1.mp b)
        exfalso; grind
      · have h1 : (l.num.natAbs : Int) = -l.num := by omega
        have h2 : (e.num.natAbs : Int) = -e.num := by omega
        rw [h1, h2, Int.neg_mul, Int.mul_neg]
      · rw [b]; simp
      · rw [a]; simp
      · rw [a]; simp
      · rw [a]; simp
    have := congrArg (fun n : Int => (n : Rat)) hz
    simp only [Rat.intCast_mul, Rat.intCast_natCast] at this
    exact this
  have hna : ((e.num.natAbs : Nat) : Rat) ≠ 0 := by
    intro z
    have := Rat.natCast_eq_zero_iff.mp z
    have : e.num = 0 := by omega
    exact e0 (Rat.num_eq_zero.mp this)
  conv => rhs; rw [rat_parts l, rat_parts e]
  grind
theorem Sz.divR {n m : Nat} {x y : Rat} (hx : Sz n x) (hy : Sz m y) (h : y ≠ 0) : Sz (n + m) (x / y) := by
  rw [Rat.div_def]
  refine hx.mul ⟨?_, ?_⟩
  · rw [Rat.num_inv, Int.natAbs_mul]
    have h1 : y.num.sign.natAbs ≤ 1 := by rw [Int.natAbs_sign]; split <;> omega
    have h2 := hy.dn
    calc y.num.sign.natAbs * ((y.den : Int)).natAbs ≤ 1 * ((y.den : Int)).natAbs := Nat.mul_le_mul_right _ h1
      _ < 2 ^ m := by omega
  · rw [Rat.den_inv, if_neg]
    · exact hy.1
    · intro z; exact h (Rat.num_eq_zero.mp z)
/-- what is told of an unseen weight: by what is lacking, and what each unit adds -/
def unsD (l e : Rat) : Dt := if e = 0 then (if l = 0 then .str "any" else .none) else if l * e ≤ 0 then .none else rD (l / e)
def lackV (r : Raft) (fs : List Man) (g gap : Rat) (ps qs : List Rat) : Rat := ((g - gap) - (drv r fs qs - drv r fs ps)) * (tot r fs : Rat)
/-! ### with another weight -/
def ownW (nm : Str) (W : Rat) (m : Man) : Rat := if m.nm = nm then W else (m.hv : Rat)
def ttl (nm : Str) (W : Rat) : List Man → List Rat → List Rat → Rat
  | m :: fs, p :: ps, q :: qs => (q - p) * ownW nm W m + ttl nm W fs ps qs
  | _, _, _ => 0
def whl (nm : Str) (W : Rat) (h0 : Rat) (fs : List Man) : Rat := h0 + (fs.map (ownW nm W)).sum
theorem ttl_nil (nm : Str) (W : Rat) (ps qs : List Rat) : ttl nm W [] ps qs = 0 := by cases ps <;> rfl
theorem ttl_take {nm : Str} {W : Rat} : ∀ {fs : List Man} {ps qs : List Rat} {i : Nat} {m : Man} {p q : Rat}, fs[i]? = some m → ps[i]? = some p → qs[i]? = some q → ttl nm W (fs.take (i + 1)) (ps.take (i + 1)) (qs.take (i + 1)) = ttl nm W (fs.take i) (ps.take i) (qs.take i) + (q - p) * ownW nm W m
  | m :: fs, p :: ps, q :: qs, 0, _, _, _, h1, h2, h3 => by
    have h1 := Option.some.inj h1
    have h2 := Option.some.inj h2
    have h3 := Option.some.inj h3
    subst h1 h2 h3
    simp [ttl, ttl_nil, Rat.add_zero, Rat.zero_add]
  | m :: fs, p :: ps, q :: qs, i + 1, m', p', q', h1, h2, h3 => by
    have ih := ttl_take (nm := nm) (W := W) (fs := fs) (ps := ps) (qs := qs) (i := i) h1 h2 h3
    simp only [List.take_succ_cons, ttl]
    rw [ih, Rat.add_assoc]
  | [], _, _, i, _, _, _, h1, _, _ => by simp at h1
  | m :: fs, [], _, i, _, _, _, _, h2, _ => by simp at h2
  | m :: fs, p :: ps, [], i, _, _, _, _, _, h3 => by simp at h3
theorem whl_take {nm : Str} {W h0 : Rat} {fs : List Man} {i : Nat} {m : Man} (h : fs[i]? = some m) : whl nm W h0 (fs.take (i + 1)) = whl nm W h0 (fs.take i) + ownW nm W m := by
  unfold whl
  rw [List.take_add_one, h, List.map_append, List.sum_append]
  simp
  grind
theorem own_no {nm : Str} {W : Rat} {m : Man} (h : m.nm ≠ nm) : ownW nm W m = (m.hv : Rat) := by unfold ownW; rw [if_neg h]
theorem ttl_no {nm : Str} {W : Rat} : ∀ {fs : List Man} {ps qs : List Rat}, (∀ m ∈ fs, m.nm ≠ nm) → ttl nm W fs ps qs = shf fs ps qs
  | [], ps, qs, _ => by rw [ttl_nil, shf_nil]
  | m :: fs, [], _, _ => rfl
  | m :: fs, p :: ps, [], _ => rfl
  | m :: fs, p :: ps, q :: qs, h => by
    simp only [ttl, shf]
    rw [own_no (h m (by simp)), ttl_no (fs := fs) fun x hx => h x (by simp [hx])]
theorem rsum_no {nm : Str} {W : Rat} : ∀ {fs : List Man}, (∀ m ∈ fs, m.nm ≠ nm) → (fs.map (ownW nm W)).sum = (wt fs : Rat)
  | [], _ => by simp [wt]
  | m :: fs, h => by
    rw [List.map_cons, List.sum_cons, own_no (h m (by simp)), rsum_no (fs := fs) fun x hx => h x (by simp [hx]), wt_cons, Rat.intCast_add]
theorem nd_tail {m : Man} {fs : List Man} (h : ((m :: fs).map (·.nm)).Nodup) : (∀ x ∈ fs, x.nm ≠ m.nm) ∧ (fs.map (·.nm)).Nodup := by
  rw [List.map_cons, List.nodup_cons] at h
  refine ⟨fun x hx e => h.1 ?_, h.2⟩
  rw [← e]; exact List.mem_map.mpr ⟨x, hx, rfl⟩
theorem drop_z {α : Type} (a : α) (l : List α) : dropAt (a :: l) 0 = l := by unfold dropAt; simp
theorem drop_s {α : Type} (a : α) (l : List α) (j : Nat) : dropAt (a :: l) (j + 1) = a :: dropAt l j := by unfold dropAt; simp
theorem ttl_is {W : Rat} : ∀ {fs : List Man} {ps qs : List Rat} {j : Nat} {m : Man} {p q : Rat}, (fs.map (·.nm)).Nodup → fs[j]? = some m → ps[j]? = some p → qs[j]? = some q →
    ttl m.nm W fs ps qs = shf (dropAt fs j) (dropAt ps j) (dropAt qs j) + W * (q - p)
  | x :: fs, p :: ps, q :: qs, 0, _, _, _, hn, h1, h2, h3 => by
    have h1 := Option.some.inj h1
    have h2 := Option.some.inj h2
    have h3 := Option.some.inj h3
    subst h1 h2 h3
    obtain ⟨n1, _⟩ := nd_tail hn
    rw [drop_z, drop_z, drop_z]
    simp only [ttl]
    rw [ttl_no n1]
    unfold ownW
    rw [if_pos rfl]
    grind
  | x :: fs, p :: ps, q :: qs, j + 1, m, p', q', hn, h1, h2, h3 => by
    have h1 : fs[j]? = some m := h1
    have ih := ttl_is (W := W) (fs := fs) (ps := ps) (qs := qs) (j := j) (nd_tail hn).2 h1 h2 h3
    rw [drop_s, drop_s, drop_s]
    simp only [ttl, shf]
    rw [ih, own_no (fun e => (nd_tail hn).1 m (List.mem_of_getElem? h1) e.symm)]
    grind
  | [], _, _, i, _, _, _, _, h1, _, _ => by simp at h1
  | m :: fs, [], _, i, _, _, _, _, _, h2, _ => by simp at h2
  | m :: fs, p :: ps, [], i, _, _, _, _, _, _, h3 => by simp at h3
theorem whl_is {W h0 : Rat} : ∀ {fs : List Man} {j : Nat} {m : Man}, (fs.map (·.nm)).Nodup → fs[j]? = some m → whl m.nm W h0 fs = h0 + (wt (dropAt fs j) : Rat) + W
  | x :: fs, 0, _, hn, h1 => by
    have h1 := Option.some.inj h1
    subst h1
    obtain ⟨n1, _⟩ := nd_tail hn
    rw [drop_z]
    unfold whl
    rw [List.map_cons, List.sum_cons, rsum_no n1]
    unfold ownW
    rw [if_pos rfl]
    grind
  | x :: fs, j + 1, m, hn, h1 => by
    have h1 : fs[j]? = some m := h1
    have ih := whl_is (W := W) (h0 := h0) (fs := fs) (j := j) (nd_tail hn).2 h1
    rw [drop_s, wt_cons, Rat.intCast_add]
    unfold whl at ih ⊢
    rw [List.map_cons, List.sum_cons, own_no (fun e => (nd_tail hn).1 m (List.mem_of_getElem? h1) e.symm)]
    grind
  | [], i, _, _, h1 => by simp at h1
/-! sizes -/
theorem own_sz {nm : Str} {W : Rat} {m : Man} (hm : m.ok) (h : m.nm ≠ nm) : Sz 8 (ownW nm W m) := by
  rw [own_no h]; exact Sz.int (pw8 (by have := hm.1; omega) hm.2.1) (by omega)
theorem ttl_sz {nm : Str} {W : Rat} {n k : Nat} (hW : Sz k W) : ∀ {fs : List Man} {ps qs : List Rat}, (fs.map (·.nm)).Nodup → (∀ m ∈ fs, m.ok) → (∀ p ∈ ps, Sz n p) → (∀ p ∈ qs, Sz n p) → Sz ((2 * n + 10) * fs.length + 1 + (2 * n + 2 + k)) (ttl nm W fs ps qs)
  | [], ps, qs, _, _, _, _ => by rw [ttl_nil]; exact sz_zero (by omega)
  | m :: fs, [], _, _, _, _, _ => sz_zero (by omega)
  | m :: fs, p :: ps, [], _, _, _, _ => sz_zero (by omega)
  | m :: fs, p :: ps, q :: qs, hn, h1, h2, h3 => by
    have hqp := (h3 q (by simp)).sub (h2 p (by simp))
    have e : (2 * n + 10) * (fs.length + 1) = (2 * n + 10) * fs.length + (2 * n + 10) := by rw [Nat.mul_succ]
    by_cases hm : m.nm = nm
    · have n1 := (nd_tail hn).1
      rw [hm] at n1
      simp only [ttl]
      rw [ttl_no n1]
      have hs := shf_sz (n := n) (fs := fs) (ps := ps) (qs := qs) (fun x hx => h1 x (by simp [hx])) (fun x hx => h2 x (by simp [hx])) (fun x hx => h3 x (by simp [hx]))
      unfold ownW
      rw [if_pos hm]
      refine ((hqp.mul hW).add hs).mono ?_
      rw [List.length_cons, e]; omega
    · have ih := ttl_sz (nm := nm) (n := n) hW (fs := fs) (ps := ps) (qs := qs) (nd_tail hn).2 (fun x hx => h1 x (by simp [hx])) (fun x hx => h2 x (by simp [hx])) (fun x hx => h3 x (by simp [hx]))
      simp only [ttl]
      refine ((hqp.mul (own_sz (W := W) (h1 m (by simp)) hm)).add ih).mono ?_
      rw [List.length_cons, e]; omega
theorem wt_sz {fs : List Man} {h0 : Int} (h : ∀ m ∈ fs, m.ok) (hl : fs.length ≤ 7) (h1 : 0 ≤ h0) (h2 : h0 ≤ 1000) : Sz 12 ((h0 : Rat) + (wt fs : Rat)) := by
  have := wt_bd h
  rw [← Rat.intCast_add]
  exact Sz.int (by omega) (by omega)
theorem whl_sz {nm : Str} {W : Rat} {k : Nat} {h0 : Int} (hW : Sz k W) (h1 : 0 ≤ h0) (h2 : h0 ≤ 1000) {fs : List Man} (hn : (fs.map (·.nm)).Nodup) (hm : ∀ m ∈ fs, m.ok) (hl : fs.length ≤ 7) : Sz (k + 13) (whl nm W (h0 : Rat) fs) := by
  by_cases hx : ∃ m ∈ fs, m.nm = nm
  · obtain ⟨m, hmem, rfl⟩ := hx
    obtain ⟨j, hj⟩ := List.getElem?_of_mem hmem
    rw [whl_is hn hj]
    have := wt_sz (fs := dropAt fs j) (h0 := h0) (fun x hx => hm x (dropAt_mem hx)) (Nat.le_trans dropAt_len hl) h1 h2
    exact (this.add hW).mono (by omega)
  · have hno : ∀ m ∈ fs, m.nm ≠ nm := fun m hmem e => hx ⟨m, hmem, e⟩
    unfold whl
    rw [rsum_no hno]
    exact (wt_sz hm hl h1 h2).mono (by omega)
/-- the weight does just where it is what is lacking by what each unit adds -/
theorem does_iff {r : Raft} {fs : List Man} {g gap W : Rat} {ps qs : List Rat} {j : Nat} {m : Man} {p q : Rat} (hr : r.ok) (hm : Men fs) (hn : (fs.map (·.nm)).Nodup) (hj : fs[j]? = some m) (h1 : ps[j]? = some p) (h2 : qs[j]? = some q) (l1 : fs.length = ps.length) (l2 : fs.length = qs.length) :
    (g - gap) * whl m.nm W (r.hv : Rat) fs = ttl m.nm W fs ps qs ↔ lackV r (dropAt fs j) g gap (dropAt ps j) (dropAt qs j) = W * ((q - p) - (g - gap)) := by
  rw [ttl_is hn hj h1 h2, whl_is hn hj]
  have hjl := lt_get hj
  have dl : ∀ {α : Type} (l : List α), l.length = fs.length → (dropAt l j).length = fs.length - 1 := fun l e => by
    unfold dropAt; rw [List.length_append, List.length_take, List.length_drop]; omega
  rw [shf_mom (by rw [dl fs rfl, dl ps l1.symm]) (by rw [dl fs rfl, dl qs l2.symm])]
  have ht : (1 : Int) ≤ tot r (dropAt fs j) := (tot_bd hr ⟨Nat.le_trans dropAt_len hm.1, fun x hx => hm.2 x (dropAt_mem hx)⟩).1
  have ht0 : (tot r (dropAt fs j) : Rat) ≠ 0 := by
    intro z; have := Rat.intCast_eq_zero_iff.mp z; omega
  unfold lackV drv
  have e : ((r.hv : Rat) + (wt (dropAt fs j) : Rat)) = (tot r (dropAt fs j) : Rat) := by unfold tot; rw [Rat.intCast_add]
  rw [e]
  generalize (tot r (dropAt fs j) : Rat) = T at *
  generalize mom (dropAt fs j) (dropAt qs j) = a at *
  generalize mom (dropAt fs j) (dropAt ps j) = b at *
  have hx : (g - gap - (a / T - b / T)) * T = (g - gap) * T - (a - b) := by grind
  rw [hx]
  constructor <;> intro h <;> grind
/-- their own weight does, where the gap is the one behind the walk -/
theorem does_own {r : Raft} {fs : List Man} {g gap : Rat} {ps qs : List Rat} {j : Nat} {m : Man} {p q : Rat} (hr : r.ok) (hm : Men fs) (hn : (fs.map (·.nm)).Nodup) (hj : fs[j]? = some m) (h1 : ps[j]? = some p) (h2 : qs[j]? = some q) (l1 : fs.length = ps.length) (l2 : fs.length = qs.length) (hg : gap = gapV r fs g ps qs) :
    lackV r (dropAt fs j) g gap (dropAt ps j) (dropAt qs j) = (m.hv : Rat) * ((q - p) - (g - gap)) := by
  refine (does_iff hr hm hn hj h1 h2 l1 l2).mp ?_
  have same : ∀ {fs : List Man} {ps qs : List Rat} {j : Nat}, (fs.map (·.nm)).Nodup → fs[j]? = some m → ttl m.nm (m.hv : Rat) fs ps qs = shf fs ps qs := by
    intro fs
    induction fs with
    | nil => intro ps qs j _ h; simp at h
    | cons x fs ih =>
      intro ps qs j hn h
      cases ps with
      | nil => rfl
      | cons p ps =>
        cases qs with
        | nil => rfl
        | cons q qs =>
          simp only [ttl, shf]
          cases j with
          | zero =>
            have h := Option.some.inj h
            subst h
            rw [ttl_no (nd_tail hn).1]
            unfold ownW; rw [if_pos rfl]
          | succ j =>
            have h : fs[j]? = some m := h
            rw [ih (nd_tail hn).2 h, own_no (fun e => (nd_tail hn).1 m (List.mem_of_getElem? h) e.symm)]
  rw [same hn hj, whl_is hn hj, wt_drop hj, hg]
  have ht : (1 : Int) ≤ tot r fs := (tot_bd hr hm).1
  have ht0 : (tot r fs : Rat) ≠ 0 := by
    intro z; have := Rat.intCast_eq_zero_iff.mp z; omega
  have e : (r.hv : Rat) + ((wt fs - m.hv : Int) : Rat) + (m.hv : Rat) = (tot r fs : Rat) := by
    unfold tot; rw [Rat.intCast_add, Rat.intCast_sub]; grind
  rw [e]
  unfold gapV
  grind
end Rw
/-! RwK: dicts whose keys are tuples of texts. -/
namespace Rw
open PySem PySem.Spec PyProof.Rows L2
/-! ### by data -/
def atD (kvs : List (List Str × Dt)) (k : List Str) : Option Dt := (kvs.find? fun x => decide (x.1 = k)).map (·.2)
def putD (kvs : List (List Str × Dt)) (k : List Str) (d : Dt) : List (List Str × Dt) := if (atD kvs k).isSome then kvs.map (fun x => if x.1 = k then (x.1, d) else x) else kvs ++ [(k, d)]
theorem putD_len (kvs : List (List Str × Dt)) (k : List Str) (d : Dt) : (putD kvs k d).length ≤ kvs.length + 1 := by
  unfold putD; split
  · rw [List.length_map]; omega
  · rw [List.length_append]; simp
theorem kyS_kV (k : List Str) : (kyS k).map kV = k.map V.str := by unfold kyS; rw [List.map_map]; rfl
theorem kyS_inj {a b : List Str} (h : kyS a = kyS b) : a = b := by
  have h2 : (kyS a).map kV = (kyS b).map kV := by rw [h]
  rw [kyS_kV, kyS_kV] at h2
  have : ∀ {a b : List Str}, a.map V.str = b.map V.str → a = b := by
    intro a
    induction a with
    | nil => intro b h; cases b <;> simp at h ⊢
    | cons x a ih =>
      intro b h
      cases b with
      | nil => simp at h
      | cons y b =>
        rw [List.map_cons, List.map_cons] at h
        injection h with h1 h2
        injection h1 with h1
        rw [h1, ih h2]
  exact this h2
theorem EnOk.len {K : PySem.W.Frag} {G : Hp} : ∀ {xs : List (List Key × Addr × Value)} {kvs : List (List Str × Dt)}, EnOk K G xs kvs → xs.length = kvs.length
  | _, _, .nil => rfl
  | _, _, .cons _ _ _ t => by rw [List.length_cons, List.length_cons, EnOk.len t]
theorem EnOk.some {K : PySem.W.Frag} {G : Hp} {k : List Str} {d : Dt} : ∀ {xs : List (List Key × Addr × Value)} {kvs : List (List Str × Dt)}, EnOk K G xs kvs → atD kvs k = some d → ∃ p v, atKey xs (kyS k) = some p ∧ RelV v p.2 ∧ Dp K G v d
  | _, _, .nil, h => by simp [atD] at h
  | _, _, @EnOk.cons _ _ k' b v u d' xs kvs h r dd t, e => by
    by_cases q : k' = k
    · subst q
      have e1 : atD ((k', d') :: kvs) k' = Option.some d' := by simp [atD]
      rw [e1] at e
      have e := Option.some.inj e
      subst e
      exact ⟨(b, u), v, by simp [atKey], r, dd⟩
    · have e1 : atD ((k', d') :: kvs) k = atD kvs k := by simp [atD, q]
      rw [e1] at e
      obtain ⟨p, v, h1, h2, h3⟩ := EnOk.some t e
      have q2 : ¬ kyS k' = kyS k := fun z => q (kyS_inj z)
      exact ⟨p, v, by simp only [atKey] at h1 ⊢; rw [List.find?_cons, decide_eq_false q2]; exact h1, h2, h3⟩
theorem EnOk.none {K : PySem.W.Frag} {G : Hp} {k : List Str} : ∀ {xs : List (List Key × Addr × Value)} {kvs : List (List Str × Dt)}, EnOk K G xs kvs → atD kvs k = none → atKey xs (kyS k) = none
  | _, _, .nil, _ => rfl
  | _, _, @EnOk.cons _ _ k' b v u d' xs kvs h r dd t, e => by
    by_cases q : k' = k
    · subst q
      simp [atD] at e
    · have e1 : atD ((k', d') :: kvs) k = atD kvs k := by simp [atD, q]
      rw [e1] at e
      have h1 := EnOk.none t e
      have q2 : ¬ kyS k' = kyS k := fun z => q (kyS_inj z)
      simp only [atKey] at h1 ⊢
      rw [List.find?_cons, decide_eq_false q2]; exact h1
theorem EnOk.isS {K : PySem.W.Frag} {G : Hp} {k : List Str} {xs : List (List Key × Addr × Value)} {kvs : List (List Str × Dt)} (h : EnOk K G xs kvs) : (atKey xs (kyS k)).isSome = (atD kvs k).isSome := by
  cases e : atD kvs k with
  | none => rw [h.none e]; rfl
  | some d => obtain ⟨p, v, h1, _⟩ := h.some e; rw [h1]; rfl
theorem EnOk.app {K : PySem.W.Frag} {G : Hp} : ∀ {xs ys : List (List Key × Addr × Value)} {kvs lvs : List (List Str × Dt)}, EnOk K G xs kvs → EnOk K G ys lvs → EnOk K G (xs ++ ys) (kvs ++ lvs)
  | _, _, _, _, .nil, h => h
  | _, _, _, _, .cons a b c t, h => .cons a b c (EnOk.app t h)
theorem EnOk.repl {K : PySem.W.Frag} {G : Hp} {k : List Str} {v : V} {u : Value} {d : Dt} (r : RelV v u) (dd : Dp K G v d) : ∀ {xs : List (List Key × Addr × Value)} {kvs : List (List Str × Dt)}, EnOk K G xs kvs → EnOk K G (xs.map (putAt (kyS k) u)) (kvs.map fun x => if x.1 = k then (x.1, d) else x)
  | _, _, .nil => .nil
  | _, _, @EnOk.cons _ _ k' b v' u' d' xs kvs h r' d1 t => by
    rw [List.map_cons, List.map_cons]
    unfold putAt
    by_cases q : k' = k
    · subst q
      rw [if_pos rfl, if_pos rfl]
      exact .cons h r dd (EnOk.repl r dd t)
    · have q2 : ¬ kyS k' = kyS k := fun z => q (kyS_inj z)
      rw [if_neg q2, if_neg q]
      exact .cons h r' d1 (EnOk.repl r dd t)
theorem EnOk.put {K : PySem.W.Frag} {G : Hp} {k : List Str} {b : Addr} {v : V} {u : Value} {d : Dt} {xs : List (List Key × Addr × Value)} {kvs : List (List Str × Dt)} (h : EnOk K G xs kvs) (hb : SqT K G b (k.map V.str)) (r : RelV v u) (dd : Dp K G v d) : EnOk K G (storedH xs (kyS k) b u) (putD kvs k d) := by
  unfold storedH putD
  rw [h.isS]
  split
  · exact h.repl r dd
  · exact h.app (.cons hb r dd .nil)
theorem EnOk.keys {K : PySem.W.Frag} {G H : Hp} (e : Same G H) : ∀ {xs : List (List Key × Addr × Value)} {kvs : List (List Str × Dt)}, EnOk K G xs kvs → ∀ x ∈ xs, SqT K H x.2.1 (x.1.map kV)
  | _, _, .nil, x, hx => by cases hx
  | _, _, .cons h _ _ t, x, hx => by
    rcases List.mem_cons.mp hx with rfl | hx
    · show SqT _ _ _ ((kyS _).map kV)
      rw [kyS_kV]; exact sqt_mono e h
    · exact EnOk.keys e t x hx
/-! ### in the machine -/
/-- a dict stands there -/
structure DG (X : Cx) (H : Hp) (a : Addr) (xs : List (List Key × Addr × Value)) : Prop where
  at_ : H a = some (dicO X.prog X.w a xs) ∨ ∃ o, H a = some (dilO X.prog X.w a o xs)
  ks : ∀ x ∈ xs, SqT X.K H x.2.1 (x.1.map kV)
  ln : xs.length ≤ 1000
section
variable {X : Cx} {pins : List (Addr × Obj)} {σ : L2.St} {H : Hp} {s : Shared} {a b : Addr} {xs : List (List Key × Addr × Value)}
theorem key_at {k : List Key} (I : L2.Inv X pins σ H s) (h : SqT X.K H b (k.map kV)) : (tupleKind (mixKind X.prog X.w)).is s.heap k b := by
  obtain ⟨its, r, ⟨o, h1, h2, n, h3⟩, _⟩ := I.tuple h
  exact ⟨o, its.toArray, n, h1, h2, h3, by simpa using items_are r⟩
theorem dg_at (I : L2.Inv X pins σ H s) (h : DG X H a xs) : (a == sysModules) = false ∧ s.heap.DictOfH (tupleKind (mixKind X.prog X.w)) a xs := by
  rcases h.at_ with hat | ⟨ob, hat⟩
  · obtain ⟨⟨h0, o, es, ep, h1, h2, h3, h4, h5⟩, _⟩ := (show ObjOk X.prog X.w H s.heap a (dicO X.prog X.w a xs) from I.hok a _ hat)
    exact ⟨h0, o, es, ep, h1, h2, h3, h4, fun x hx => key_at I (h.ks x hx), h5⟩
  · obtain ⟨⟨h0, h1, es, ep, h2, h3, h4, h5⟩, _⟩ := (show ObjOk X.prog X.w H s.heap a (dilO X.prog X.w a ob xs) from I.hok a _ hat)
    exact ⟨h0, ob, es, ep, h1, h2, h3, h4, fun x hx => key_at I (h.ks x hx), h5⟩
theorem dicO_ok {P : Program} {w : World} {h : Heap} (h0 : (a == sysModules) = false) (dd : h.DictOfH (tupleKind (mixKind P w)) a xs) : ObjOk P w H h a (dicO P w a xs) := by
  obtain ⟨o, es, ep, h1, h2, h3, h4, _, h5⟩ := dd
  refine ⟨⟨h0, o, es, ep, h1, h2, h3, h4, h5⟩, ⟨o, h1⟩, fun g1 g2 hg k => ?_⟩
  obtain ⟨q0, o, es, ep, g, q⟩ := hg
  exact ⟨q0, o, es, ep, k _ g, q⟩
end
/-- d[k] -/
def tDg (X : Cx) (td ty : TE) : TE := fun σ H Q => td σ H fun x H1 => ty σ H1 fun y H2 => ∃ a b xs k p v, x = .ref a ∧ y = .ref b ∧ DG X H2 a xs ∧ SqT X.K H2 b (k.map kV) ∧ atKey xs k = some p ∧ RelV v p.2 ∧ Q v H2
theorem pe_dg {X : Cx} {o i : Expr} {pos : Pos} {td ty : TE} (hu : X.A.units + 1 < cLine) (ho : PE X o td) (hi : PE X i ty) (hs : NoSl i) : PE X (.Subscript o i pos) (tDg X td ty) := by
  refine ⟨fun pins s σ H Q I h => ?_⟩
  refine subD_of PySem.F.slot_dict_getitem.lookup hs (thn (ho.run pins s σ H _ I h) fun u s1 ⟨x, H1, I1, rx, q1⟩ => thn (hi.run pins s1 σ H1 _ I1 q1) fun iv s2 ⟨y, H2, I2, ry, a, b, xs, k, p, v, ex, ey, g, kb, hp, rv, q2⟩ => ?_)
  subst ex ey
  obtain rfl : u = Value.ref a := rx
  obtain rfl : iv = Value.ref b := ry
  obtain ⟨_, dd⟩ := dg_at I2 g
  exact ⟨dd.typeIs, wpAny_getItem_heap (tupleKind_room_in1 hu) (key_at I2 kb) dd hp ⟨v, H2, I2.tok _, rv, q2⟩⟩
/-- k in d -/
def rDin (X : Cx) (neg : Bool) : R2 := fun x y H Q => ∃ a b xs k, x = .ref b ∧ y = .ref a ∧ DG X H a xs ∧ SqT X.K H b (k.map kV) ∧ Q (.bl (if neg then !(atKey xs k).isSome else (atKey xs k).isSome)) H
theorem op_din {X : Cx} (hu : X.A.units + 1 < cLine) : OpR X (compareOp .In) (rDin X false) := by
  intro pins s σ H x y v u Q I rx ry h
  obtain ⟨a, b, xs, k, rfl, rfl, g, kb, q⟩ := h
  cases rx
  cases ry
  obtain ⟨h0, dd⟩ := dg_at I g
  exact wpAny_in_heap (tupleKind_room_in1 hu) (key_at I kb) h0 dd ⟨.bl _, H, I.tok _, rfl, q⟩
section
variable {X : Cx} {env : LE} {μ μ0 μ1 μ2 μ3 μ4 : MU} {x y z : DE} {a b c e o : Expr} {es : List Expr} {pos p pos' : Pos} {D : DN}
theorem Sit.dg {G H : Hp} {A : List Addr} {μ : MU} {j : Nat} {a : Addr} {kvs : List (List Str × Dt)} (S : Sit X.K G H A μ) (ha : A[j]? = some a) (hm : μ[j]? = some (some (.dic X.prog X.w kvs))) : ∃ xs, DG X H a xs ∧ EnOk X.K G xs kvs ∧ kvs.length ≤ 1000 ∧ H a = some (dicO X.prog X.w a xs) := by
  obtain ⟨_, xs, h1, h2, h3⟩ := S.cl j a _ ha hm
  exact ⟨xs, ⟨.inl h1, h2.keys S.ex, by rw [h2.len]; exact h3⟩, h2, h3, h1⟩
theorem strs_tup {G H : Hp} {A : List Addr} {μ : MU} {v : V} {k : List Str} (S : Sit X.K G H A μ) (h : Rp X.K G A v (.d (.tuple (k.map .str)))) : ∃ b, v = .ref b ∧ SqT X.K G b (k.map V.str) ∧ SqT X.K H b ((kyS k).map kV) := by
  cases h with
  | d h =>
    cases h with
    | tup h hs =>
      rw [dpa_strs hs] at h
      exact ⟨_, rfl, h, by rw [kyS_kV]; exact sqt_mono S.ex h⟩
/-- d[k], there -/
theorem ev_dget {j : Nat} {kvs : List (List Str × Dt)} {k : List Str} {d : Dt} (hu : X.A.units + 1 < cLine) (ha : Ev X a env μ μ1 (.c j)) (hb : Ev X b env μ1 μ2 (.d (.tuple (k.map .str)))) (hm : μ2[j]? = some (some (.dic X.prog X.w kvs))) (hd : atD kvs k = some d) (hs : NoSl b := by intro _ _; rfl) : Ev X (.Subscript a b pos) env μ μ2 (.d d) := .mk fun σ G H A E S Q q pins s I =>
  (pe_dg hu pu pu hs).run pins s σ H Q I (ha.run σ G H A E S _ fun v G1 H1 A1 e1 p1 S1 r1 => hb.run σ G1 H1 A1 (E.mv e1 p1) S1 _ fun w G2 H2 A2 e2 p2 S2 r2 => by
    cases r1.mv e2 p2 with
    | @c _ l hA =>
      obtain ⟨xs, g, en, _⟩ := S2.dg hA hm
      obtain ⟨bb, rfl, _, kb⟩ := strs_tup S2 r2
      obtain ⟨pp, vv, h1, h2, h3⟩ := en.some hd
      exact ⟨l, bb, xs, kyS k, pp, vv, rfl, rfl, g, kb, h1, h2, (q.mono (e1.trans e2) (p1.trans p2)).now S2 (.d h3)⟩)
/-- k in d -/
theorem c_din {j : Nat} {kvs : List (List Str × Dt)} {k : List Str} (hu : X.A.units + 1 < cLine) (hm : μ[j]? = some (some (.dic X.prog X.w kvs))) : CmpD X .In (.d (.tuple (k.map .str))) (.c j) μ (atD kvs k).isSome :=
  ⟨_, op_din hu, fun G H A v w S r1 r2 Q q => by
    cases r2 with
    | @c _ l hA =>
      obtain ⟨xs, g, en, _⟩ := S.dg hA hm
      obtain ⟨bb, rfl, _, kb⟩ := strs_tup S r1
      exact ⟨l, bb, xs, kyS k, rfl, rfl, g, kb, by rw [if_neg (by decide), en.isS]; exact q.now S (.d (.bl _))⟩⟩
/-- d[k] = v -/
theorem b1_dput {j : Nat} {kvs : List (List Str × Dt)} {k : List Str} {d : Dt} (hu : X.A.units + 1 < cLine) (h : Ev X e env μ μ1 (.d d)) (ho : Ev X o env μ1 μ2 (.c j)) (hi : Ev X a env μ2 μ3 (.d (.tuple (k.map .str)))) (hm : μ3[j]? = some (some (.dic X.prog X.w kvs))) (hl : kvs.length < 1000) (hn : D.nx env (μ3.set j (some (.dic X.prog X.w (putD kvs k d)))))
    (hs : swapsWith e (some (.Subscript o a pos')) pos.line X.env = pure false := by rfl) : B1 X (.Assign [.Subscript o a pos'] e pos) env μ D := .mk fun σ G H A E S N q pins s I => by
  refine wpAny_Assign_Subscript (thn (h.run σ G H A E S (fun v H1 => ∃ G1 A1, Same G G1 ∧ Mv G A H G1 A1 H1 ∧ Sit X.K G1 H1 A1 μ1 ∧ Rp X.K G1 A1 v (.d d)) (fun v G1 H1 A1 e1 m1 S1 r1 => ⟨G1, A1, e1, m1, S1, r1⟩) pins s I) fun r s1 ⟨v, H1, I1, rv, G1, A1, e1, m1, S1, r1⟩ => ?_) hs
  refine thn (ho.run σ G1 H1 A1 (E.mv e1 m1) S1 (fun w H2 => ∃ G2 A2, Same G1 G2 ∧ Mv G1 A1 H1 G2 A2 H2 ∧ Sit X.K G2 H2 A2 μ2 ∧ Rp X.K G2 A2 w (.c j)) (fun w G2 H2 A2 e2 m2 S2 r2 => ⟨G2, A2, e2, m2, S2, r2⟩) pins s1 I1) fun u s2 ⟨w, H2, I2, rw_, G2, A2, e2, m2, S2, r2⟩ => ?_
  refine thn (hi.run σ G2 H2 A2 ((E.mv e1 m1).mv e2 m2) S2 (fun y H3 => ∃ G3 A3, Same G2 G3 ∧ Mv G2 A2 H2 G3 A3 H3 ∧ Sit X.K G3 H3 A3 μ3 ∧ Rp X.K G3 A3 y (.d (.tuple (k.map .str)))) (fun y G3 H3 A3 e3 m3 S3 r3 => ⟨G3, A3, e3, m3, S3, r3⟩) pins s2 I2) fun iv s3 ⟨y, H3, I3, ry, G3, A3, e3, m3, S3, r3⟩ => ?_
  cases r2.mv e3 m3 with
  | @c _ l hA =>
    obtain rfl : u = Value.ref l := rw_
    obtain ⟨xs, g, en, hlen, hatl⟩ := S3.dg hA hm
    obtain ⟨bb, rfl, kg, kb⟩ := strs_tup S3 r3
    obtain rfl : iv = Value.ref bb := ry
    obtain ⟨h0, dd⟩ := dg_at I3 g
    have dv : Dp X.K G3 v d := by
      cases (r1.mv e2 m2).mv e3 m3 with
      | d dv => exact dv
    have en' := en.put kg rv dv
    refine wpAny_setItem_heap (hsz := by rw [sizeLine_eq]; have := g.ln; omega) (tupleKind_room_in1 hu) (key_at I3 kb) dd fun h' dd' hs' => ?_
    have hz : ∃ ob, h'.get? l = some ob := let ⟨ob, _, _, hq, _⟩ := dd'; ⟨ob, hq⟩
    have I4 : L2.Inv X pins σ (upd H3 l (dicO X.prog X.w l (storedH xs (kyS k) bb r))) { s3 with heap := h', toks := s3.toks + (tupleKind (mixKind X.prog X.w)).draws (kyS k) } :=
      d_write I3 (by rw [hatl]; exact True.intro) hs' hz (dicO_ok h0 dd')
    have S4 : Sit X.K G3 (upd H3 l (dicO X.prog X.w l (storedH xs (kyS k) bb r))) A3 (μ3.set j (some (.dic X.prog X.w (putD kvs k d)))) := S3.putX hA hm ⟨_, upd_same, en', by have := putD_len kvs k d; omega⟩
    exact ⟨σ, _, I4, q.nx env _ σ G3 _ A3 hn ((e1.trans e2).trans e3) (((m1.trans m2).trans m3).trans (Mv.put (List.mem_of_getElem? hA))) (((E.mv e1 m1).mv e2 m2).mv e3 m3) S4⟩
end
end Rw
/-! RwKb: {}, {k: v}, d.get(k, x). -/
namespace Rw
open PySem PySem.Spec PyProof.Rows L2
theorem dic_empty {P : Program} {w : World} {H : Hp} (h : Heap) (hb : sysModules < h.objs.size) : ObjOk P w H (h.push { cls := .type "dict", data := .dict #[] }) h.objs.size (dicO P w h.objs.size []) :=
  dicO_ok (beq_eq_false_iff_ne.mpr (Ne.symm (Nat.ne_of_lt hb))) ⟨_, #[], 0, Heap.get?_push_size _ rfl, ⟨rfl, rfl, rfl⟩, rfl, rfl, fun x hx => (by cases hx), List.nodup_nil⟩
section
variable {K : PySem.W.Frag}
/-- a thing beside becomes one of ours -/
theorem Sit.newY {G H : Hp} {A : List Addr} {μ : MU} (S : Sit K G H A μ) {p : Addr} {o : HO} {c : Cl} (hp : p ∉ A) (hg : G p = none) (hx : CellOk K G (upd H p o) p c) : Sit K G (upd H p o) (A ++ [p]) (μ ++ [some c]) := by
  have S1 := S.side (o := o) hp hg
  have hk' : ∀ k a, ¬ k < A.length → (A ++ [p])[k]? = some a → k = A.length ∧ a = p := fun k a q ha => by
    have hk : k = A.length := by
      have r := lt_get ha
      rw [List.length_append] at r; simp at r; omega
    subst hk
    rw [List.getElem?_append_right (Nat.le_refl _), Nat.sub_self] at ha
    exact ⟨rfl, (Option.some.inj ha).symm⟩
  refine ⟨S1.ex, by rw [List.length_append, List.length_append, S.len]; rfl, ?_, fun k a ha => ?_, fun k a es ha hd => ?_⟩
  · rw [List.nodup_append]
    refine ⟨S.nd, by simp, fun a ha b hb => ?_⟩
    have hb : b = p := by simpa using hb
    subst hb
    intro e; subst e
    exact hp ha
  · by_cases q : k < A.length
    · rw [List.getElem?_append_left q] at ha
      exact S1.liv k a ha
    · obtain ⟨_, rfl⟩ := hk' k a q ha
      rw [upd_same]; intro z; cases z
  · by_cases q : k < A.length
    · rw [List.getElem?_append_left q] at ha
      rw [List.getElem?_append_left (by rw [← S.len]; exact q)] at hd
      exact S1.cl k a es ha hd
    · obtain ⟨rfl, rfl⟩ := hk' k a q ha
      rw [S.len, List.getElem?_append_right (Nat.le_refl _), Nat.sub_self] at hd
      have hd := Option.some.inj (Option.some.inj hd)
      subst hd
      exact ⟨hg, hx⟩
end
section
variable {X : Cx} {env : LE} {μ μ0 μ1 μ2 μ3 μ4 : MU} {x y z : DE} {a b c e o : Expr} {es : List Expr} {pos p pos' : Pos} {D : DN}
theorem ev_dnew : Ev X (.Dict [] [] pos) env μ (μ ++ [some (.dic X.prog X.w [])]) (.c μ.length) := .mk fun σ G H A E S Q q pins s I => by
  have hp := I.hok.fresh (Nat.le_refl s.heap.objs.size)
  exact wpAny_Dict_empty ⟨.ref s.heap.objs.size, _, I.laid (a := s.heap.objs.size) (o := dicO X.prog X.w s.heap.objs.size []) (t' := s.toks) (fun _ _ q => Heap.get?_push_of_some _ q) (Nat.le_refl _) (dic_empty s.heap I.big), rfl,
    q _ G _ (A ++ [s.heap.objs.size]) (Same.refl G) (Mv.newC hp) (S.newX hp ⟨[], upd_same, .nil, by simp⟩) (.c (by rw [← S.len, List.getElem?_append_right (Nat.le_refl _), Nat.sub_self]; rfl))⟩
/-- {k: v} -/
theorem ev_done {k : List Str} {d : Dt} (hu : X.A.units + 1 < cLine) (ha : Ev X a env μ μ1 (.d (.tuple (k.map .str)))) (hb : Ev X b env μ1 μ2 (.d d)) : Ev X (.Dict [some a] [b] pos) env μ (μ2 ++ [some (.dic X.prog X.w [(k, d)])]) (.c μ2.length) := .mk fun σ G H A E S Q q pins s I => by
  have hp := I.hok.fresh (Nat.le_refl s.heap.objs.size)
  have I1 := I.laid (a := s.heap.objs.size) (o := dicO X.prog X.w s.heap.objs.size []) (h' := s.heap.push { cls := .type "dict", data := .dict #[] }) (t' := s.toks) (fun _ _ q => Heap.get?_push_of_some _ q) (Nat.le_refl _) (dic_empty s.heap I.big)
  have hA : s.heap.objs.size ∉ A := fun z => by
    obtain ⟨j, hj⟩ := List.getElem?_of_mem z
    exact S.liv j _ hj hp
  have hG : G s.heap.objs.size = none := S.ex.free hp
  generalize hP : s.heap.objs.size = pp at *
  have S1 := S.side (o := dicO X.prog X.w pp []) hA hG
  rw [arm_eval_Dict, zip_pairTrees [some a] [b] X.env pos rfl rfl, dictDisplay_pairs (pairTrees [some a] [b] X.env pos) (by intro z; cases z) (show (1 : Nat) < 17 by decide)]
  refine wpAny_bind (wpAny_standAt (wpAny_bind (wpAny_subDictH (knd := tupleKind (mixKind X.prog X.w)) (Q := fun d s' => wpAny (model X.prog X.w) X.A (pure (Value.ref d)) (EP X pins σ Q) X.xe s') (by show X.A.units < cLine; omega) (show (1 : Nat) ≤ 15 by decide) ?_)))
  refine pairTrees_cons_walk (thn (ha.run σ G _ A E S1 (fun v H1 => ∃ G1 A1, Same G G1 ∧ Mv G A (upd H pp (dicO X.prog X.w pp [])) G1 A1 H1 ∧ Sit X.K G1 H1 A1 μ1 ∧ Rp X.K G1 A1 v (.d (.tuple (k.map .str)))) (fun v G1 H1 A1 e1 m1 S1 r1 => ⟨G1, A1, e1, m1, S1, r1⟩) pins _ I1) fun u s1 ⟨v, H1, I1', rv, G1, A1, e1, m1, S1', r1⟩ => ?_)
  refine thn (hb.run σ G1 H1 A1 (E.mv e1 m1) S1' (fun w H2 => ∃ G2 A2, Same G1 G2 ∧ Mv G1 A1 H1 G2 A2 H2 ∧ Sit X.K G2 H2 A2 μ2 ∧ Rp X.K G2 A2 w (.d d)) (fun w G2 H2 A2 e2 m2 S2 r2 => ⟨G2, A2, e2, m2, S2, r2⟩) pins s1 I1') fun u2 s2 ⟨w, H2, I2, rw_, G2, A2, e2, m2, S2, r2⟩ => ?_
  refine pairTrees_nil_walk ?_
  have m12 := m1.trans m2
  have hH2 : H2 pp = some (dicO X.prog X.w pp []) := m12.kp pp _ upd_same hA
  obtain ⟨B, hB, fB⟩ := m12.pre
  have hA2 : pp ∉ A2 := fun z => by
    rw [hB] at z
    rcases List.mem_append.mp z with z | z
    · exact hA z
    · have := fB pp z
      rw [upd_same] at this; cases this
  have hG2 : G2 pp = none := by
    cases gz : G2 pp with
    | none => rfl
    | some o' =>
      rcases m12.gr pp (by rw [gz]; intro z; cases z) with z | z | z
      · exact absurd hG z
      · rw [upd_same] at z; cases z
      · exact absurd z hA
  obtain ⟨bb, rfl, kg, kb⟩ := strs_tup S2 (r1.mv e2 m2)
  obtain rfl : u = Value.ref bb := rv
  have dw : Dp X.K G2 w d := by
    cases r2 with
    | d h => exact h
  have g0 : DG X H2 pp [] := ⟨.inl hH2, fun x hx => (by cases hx), (by simp)⟩
  obtain ⟨h0, dd⟩ := dg_at I2 g0
  rw [← hP] at dd h0
  refine ⟨[(kyS k, bb, u2)], ⟨rfl, rfl, key_at I2 kb, True.intro⟩, dd, fun h' tk dd' hs' => wpAny_pure ?_⟩
  have hz : ∃ ob, h'.get? s.heap.objs.size = some ob := let ⟨ob, _, _, hq, _⟩ := dd'; ⟨ob, hq⟩
  have dd2 : h'.DictOfH (tupleKind (mixKind X.prog X.w)) s.heap.objs.size [(kyS k, bb, u2)] := dd'
  rw [hP] at dd2 hs' hz h0
  have I4 : L2.Inv X pins σ (upd H2 pp (dicO X.prog X.w pp [(kyS k, bb, u2)])) { s2 with heap := h', toks := tk } := d_write I2 (by rw [hH2]; exact True.intro) hs' hz (dicO_ok h0 dd2)
  refine ⟨.ref pp, _, I4, by rw [hP]; rfl, q _ G2 _ (A2 ++ [pp]) (e1.trans e2) ⟨⟨B ++ [pp], by rw [hB, List.append_assoc], fun x hx => ?_⟩, fun x ob hx hxA => ?_, fun x hx => ?_, fun x hx => ?_⟩ (S2.newY hA2 hG2 ⟨_, upd_same, .cons kg rw_ dw .nil, by simp⟩) (.c (by rw [← S2.len, List.getElem?_append_right (Nat.le_refl _), Nat.sub_self]; rfl))⟩
  · rcases List.mem_append.mp hx with z | z
    · have := fB x z
      by_cases e : x = pp
      · subst e; exact hp
      · rw [upd_ne e] at this; exact this
    · have z : x = pp := by simpa using z
      rw [z]; exact hp
  · have hne : x ≠ pp := ne_of_none hx hp
    rw [upd_ne hne]
    exact m12.kp x ob (by rw [upd_ne hne]; exact hx) hxA
  · have hne : x ≠ pp := fun e => by subst e; exact hx hp
    rw [upd_ne hne]
    exact m12.up x (by rw [upd_ne hne]; exact hx)
  · rcases m12.gr x hx with z | z | z
    · exact .inl z
    · by_cases e : x = pp
      · subst e; exact .inr (.inl hp)
      · rw [upd_ne e] at z; exact .inr (.inl z)
    · exact .inr (.inr z)
/-- d.get(k, x) -/
theorem ev_dgetx {j : Nat} {kvs : List (List Str × Dt)} {k : List Str} {d : Dt} {ap : Pos} (hu : X.A.units + 1 < cLine) (ha : Ev X o env μ μ (.c j)) (hb : Ev X a env μ μ (.d (.tuple (k.map .str)))) (hc : Ev X b env μ μ (.d d)) (hm : μ[j]? = some (some (.dic X.prog X.w kvs)))
    (m : M2 X o "get" ap a b pos := by exact ⟨rfl, rfl, rfl, rfl⟩) : Ev X (.Call (.Attribute o "get" ap) [a, b] [] pos) env μ μ (.d ((atD kvs k).getD d)) := .mk fun σ G H A E S Q q pins s I => by
  refine wpAny_Call_method m.base m.few m.line PySem.F.plainAttrs_dict PySem.F.slot_dict_get PySem.F.type_dict_get (thn (ha.run σ G H A E S (fun v H1 => ∃ G1 A1, Same G G1 ∧ Mv G A H G1 A1 H1 ∧ Sit X.K G1 H1 A1 μ ∧ Rp X.K G1 A1 v (.c j)) (fun v G1 H1 A1 e1 m1 S1 r1 => ⟨G1, A1, e1, m1, S1, r1⟩) pins s I) fun u s1 ⟨v, H1, I1, rv, G1, A1, e1, m1, S1, r1⟩ => ?_)
  cases r1 with
  | @c _ l hA =>
    obtain rfl : u = Value.ref l := rv
    obtain ⟨xs, g, en, _⟩ := S1.dg hA hm
    obtain ⟨h0, dd⟩ := dg_at I1 g
    refine ⟨dd.typeIs, fun b q => ?_, ?_⟩
    · cases q
      obtain ⟨ob, _, _, h1, h2, _⟩ := dd
      exact ⟨ob, h1, h2.2.1⟩
    rw [m.trees]
    refine Calls.callWith_builtin rfl (Calls.evalArgs_plain (Calls.spliced_cons (thn (hb.run σ G1 H1 A1 (E.mv e1 m1) S1 (fun w H2 => ∃ G2 A2, Same G1 G2 ∧ Mv G1 A1 H1 G2 A2 H2 ∧ Sit X.K G2 H2 A2 μ ∧ Rp X.K G2 A2 w (.d (.tuple (k.map .str)))) (fun w G2 H2 A2 e2 m2 S2 r2 => ⟨G2, A2, e2, m2, S2, r2⟩) pins s1 I1) fun u2 s2 ⟨w, H2, I2, rw_, G2, A2, e2, m2, S2, r2⟩ =>
      Calls.spliced_cons (thn (hc.run σ G2 H2 A2 ((E.mv e1 m1).mv e2 m2) S2 (fun y H3 => ∃ G3 A3, Same G2 G3 ∧ Mv G2 A2 H2 G3 A3 H3 ∧ Sit X.K G3 H3 A3 μ ∧ Rp X.K G3 A3 y (.d d)) (fun y G3 H3 A3 e3 m3 S3 r3 => ⟨G3, A3, e3, m3, S3, r3⟩) pins s2 I2) fun u3 s3 ⟨y, H3, I3, ry, G3, A3, e3, m3, S3, r3⟩ => Calls.spliced_nil ?_))))
    have hA3 := m3.Pre.get (m2.Pre.get hA)
    obtain ⟨xs3, g3, en3, _⟩ := S3.dg hA3 hm
    obtain ⟨h03, dd3⟩ := dg_at I3 g3
    obtain ⟨bb, rfl, kg, kb⟩ := strs_tup S3 (r2.mv e3 m3)
    obtain rfl : u2 = Value.ref bb := rw_
    refine call_meetsIn PySem.F.slot_dict_get dd3.typeIs PySem.F.entry_dict_get (PySem.F.args_dict_get_3 _ _ _) (meetsH_dict_get_default (tupleKind (mixKind X.prog X.w)) l bb h03 u3) ⟨tupleKind_room_in1 hu, kyS k, xs3, key_at I3 kb, dd3, ?_⟩
    have q3 := q.mono ((e1.trans e2).trans e3) ((m1.trans m2).trans m3)
    cases hd : atD kvs k with
    | none =>
      rw [en3.none hd]
      rw [hd] at q3
      exact ⟨y, H3, I3.tok _, ry, q3.now S3 r3⟩
    | some d' =>
      obtain ⟨pp, vv, h1, h2, h3⟩ := en3.some hd
      rw [h1]
      rw [hd] at q3
      exact ⟨vv, H3, I3.tok _, h2, q3.now S3 (.d h3)⟩
end
end Rw
/-! RwO: lists of tuples of texts in order. -/
namespace Rw
open PySem PySem.Spec PyProof.Rows L2
def encK (k : List Str) : Dt := .tuple (k.map .str)
/-- a tuple of texts before another -/
def lexS : List Str → List Str → Bool
  | _, [] => false
  | [], _ :: _ => true
  | x :: a, y :: b => if x = y then lexS a b else decide (x.cps.toList < y.cps.toList)
theorem str_ext {x y : Str} (h : x.cps.toList = y.cps.toList) : x = y := by
  cases x with
  | mk a =>
    cases y with
    | mk b =>
      have h : a.toList = b.toList := h
      rw [Array.toList_inj.mp h]
theorem lexS_asym : ∀ {a b : List Str}, lexS a b = true → lexS b a = false
  | [], [], h => by simp [lexS] at h
  | x :: a, [], h => by simp [lexS] at h
  | [], y :: b, _ => by simp [lexS]
  | x :: a, y :: b, h => by
    unfold lexS at h ⊢
    by_cases e : x = y
    · rw [if_pos e] at h; rw [if_pos e.symm]; exact lexS_asym h
    · rw [if_neg e] at h; rw [if_neg fun z => e z.symm]
      exact decide_eq_false (List.lt_asymm (of_decide_eq_true h))
theorem lexS_tot : ∀ {a b : List Str}, lexS a b = false → lexS b a = false → a = b
  | [], [], _, _ => rfl
  | x :: a, [], _, h => by simp [lexS] at h
  | [], y :: b, h, _ => by simp [lexS] at h
  | x :: a, y :: b, h, h' => by
    unfold lexS at h h'
    by_cases e : x = y
    · rw [if_pos e] at h; rw [if_pos e.symm] at h'; rw [e, lexS_tot h h']
    · rw [if_neg e] at h; rw [if_neg fun z => e z.symm] at h'
      exact absurd (str_ext (List.le_antisymm (List.not_lt.mp (of_decide_eq_false h')) (List.not_lt.mp (of_decide_eq_false h)))) e
theorem lexS_tr : ∀ {a b c : List Str}, lexS b a = false → lexS c b = false → lexS c a = false
  | [], b, [], _, _ => by simp [lexS]
  | [], b, z :: c, _, _ => by simp [lexS]
  | x :: a, [], c, h, _ => by simp [lexS] at h
  | x :: a, y :: b, [], _, h => by simp [lexS] at h
  | x :: a, y :: b, z :: c, h, h' => by
    unfold lexS at h h' ⊢
    by_cases e : y = x
    · rw [if_pos e] at h
      by_cases e2 : z = y
      · rw [if_pos e2] at h'; rw [if_pos (e2.trans e)]; exact lexS_tr h h'
      · rw [if_neg e2] at h'
        rw [if_neg (fun q => e2 (q.trans e.symm)), ← e]; exact h'
    · rw [if_neg e] at h
      by_cases e2 : z = y
      · rw [if_neg (fun q => e (e2.symm.trans q)), e2]; exact h
      · rw [if_neg e2] at h'
        have h1 := List.not_lt.mp (of_decide_eq_false h)
        have h2 := List.not_lt.mp (of_decide_eq_false h')
        by_cases e3 : z = x
        · subst e3
          exact absurd (str_ext (List.le_antisymm h2 h1)) e
        · rw [if_neg e3]
          exact decide_eq_false (List.not_lt.mpr (List.le_trans h1 h2))
def leS (a b : List Str) : Bool := !lexS b a
theorem leS_tr (a b c : List Str) (h : leS a b = true) (h' : leS b c = true) : leS a c = true := by
  unfold leS at *
  rw [Bool.not_eq_true'] at *
  exact lexS_tr h h'
theorem leS_tot (a b : List Str) : (leS a b || leS b a) = true := by
  unfold leS
  cases h : lexS b a with
  | false => rfl
  | true => rw [lexS_asym h]; rfl
theorem sortL_pw (ks : List (List Str)) : (ks.mergeSort leS).Pairwise (fun a b => lexS b a = false) := by
  refine (List.pairwise_mergeSort leS_tr leS_tot ks).imp fun {a b} h => ?_
  unfold leS at h
  rwa [Bool.not_eq_true'] at h
theorem sortL_uniq {ks l : List (List Str)} (hp : l.Perm ks) (hs : l.Pairwise (fun a b => lexS b a = false)) : l = ks.mergeSort leS :=
  List.Perm.eq_of_pairwise (le := fun a b => lexS b a = false) (fun a b _ _ h1 h2 => lexS_tot h2 h1) hs (sortL_pw ks) (hp.trans (List.mergeSort_perm ks leS).symm)
/-! ### in the machine -/
theorem firstLt_S : ∀ (a b : List Str), SeqAt.firstLt (fun j => a[j]? == b[j]?) (fun j => decide ((a.getD j "").cps.toList < (b.getD j "").cps.toList)) (decide (a.length < b.length)) (List.range (min a.length b.length)) = lexS a b
  | [], [] => by simp [SeqAt.firstLt, lexS]
  | x :: a, [] => by simp [SeqAt.firstLt, lexS]
  | [], y :: b => by simp [SeqAt.firstLt, lexS]
  | x :: a, y :: b => by
    have ih := firstLt_S a b
    have hr : List.range (min (x :: a).length (y :: b).length) = 0 :: (List.range (min a.length b.length)).map (· + 1) := by
      rw [List.length_cons, List.length_cons, Nat.succ_min_succ, List.range_succ_eq_map]
    rw [hr]
    unfold lexS
    by_cases e : x = y
    · rw [if_pos e, SeqAt.firstLt_yes (by simp [e]), PySem.W.firstLt_map, ← ih]
      simp
    · rw [if_neg e, SeqAt.firstLt_no (by simp [e])]
      rfl
def TS (h : Heap) (v : Value) (k : List Str) : Prop := ∃ (a : Addr) (its : List Value), v = .ref a ∧ IsTup h a its.toArray ∧ Vals (k.map V.str) its
theorem TS.keep {h h' : Heap} {v : Value} {k : List Str} (t : TS h v k) (hk : ∀ b o, h.get? b = some o → o.cls = .type "tuple" → h'.get? b = some o) : TS h' v k := by
  obtain ⟨a, its, e, ⟨o, h1, h2, n, h3⟩, r⟩ := t
  exact ⟨a, its, e, ⟨o, hk a o h1 h2, h2, n, h3⟩, r⟩
theorem strs_of {k k' : List Str} {its : List Value} : Vals (k.map V.str) its → Vals (k'.map V.str) its → k = k' := by
  induction k generalizing k' its with
  | nil =>
    intro h h'
    cases k' with
    | nil => rfl
    | cons y k' => cases h; cases h'
  | cons x k ih =>
    intro h h'
    cases k' with
    | nil => cases h'; cases h
    | cons y k' =>
      rw [List.map_cons] at h h'
      cases h with
      | cons r t =>
        cases h' with
        | cons r' t' =>
          obtain ⟨u, rfl⟩ := r
          obtain ⟨u', e⟩ := r'
          cases e
          rw [ih t t']
theorem TS.uniq {h : Heap} {v : Value} {k k' : List Str} (t : TS h v k) (t' : TS h v k') : k = k' := by
  obtain ⟨a, its, rfl, ⟨o, h1, h2, n, h3⟩, r⟩ := t
  obtain ⟨a', its', e, ⟨o', h1', h2', n', h3'⟩, r'⟩ := t'
  cases e
  rw [h1] at h1'
  cases h1'
  rw [h3] at h3'
  injection h3' with h3' _
  have : its = its' := by simpa using h3'
  subst this
  exact strs_of r r'
open Classical in
noncomputable def keyTS (h : Heap) (v : Value) : List Str := if q : ∃ k, TS h v k then q.choose else []
theorem keyTS_is {h : Heap} {v : Value} {k : List Str} (t : TS h v k) : keyTS h v = k := by
  have q : ∃ k, TS h v k := ⟨k, t⟩
  unfold keyTS
  rw [dif_pos q]
  exact q.choose_spec.uniq t
section
variable {prog : Program} {w : World} {A : Around} {E : Value → Shared → Prop} {s : Shared}
theorem vals_at {k : List Str} {its : List Value} (r : Vals (k.map V.str) its) {j : Nat} (h : j < its.length) : ∃ x t, k[j]? = some x ∧ its[j] = Value.str x t := by
  have hl := r.length
  rw [List.length_map] at hl
  have hk : k[j]? = some (k[j]'(by omega)) := List.getElem?_eq_getElem _
  obtain ⟨u, h1, t, h2⟩ := r.get (i := j) (x := V.str (k[j]'(by omega))) (by rw [List.getElem?_map, hk]; rfl)
  rw [List.getElem?_eq_getElem h] at h1
  exact ⟨_, t, hk, (Option.some.inj h1).trans h2⟩
theorem oneLt_TS {v u : Value} {k k' : List Str} {Q : Bool → Shared → Prop} (hu : A.units < cLine) (t : TS s.heap v k) (t' : TS s.heap u k') (h : Q (lexS k k') s) : wpAny (model prog w) A (oneLt' true v u) Q E s := by
  obtain ⟨a, its, rfl, ⟨⟨cls, dd, data, sl⟩, h1, h2, n, h3⟩, r⟩ := t
  obtain ⟨a', its', rfl, ⟨⟨cls', dd', data', sl'⟩, h1', h2', n', h3'⟩, r'⟩ := t'
  simp only at h2 h3 h2' h3'
  subst h2 h3 h2' h3'
  rw [oneLt'_eq]
  simp only [if_true]
  refine wpAny_bind (wpAny_cRoomFor hu (wpAny_bind (wpAny_callSpecialIfBound?_slot ⟨_, h1, rfl⟩ PySem.F.slot_tuple_lt ?_)))
  have l1 := r.length
  have l2 := r'.length
  rw [List.length_map] at l1 l2
  refine call_meets PySem.F.slot_tuple_lt ⟨_, h1, rfl⟩ PySem.F.entry_tuple_lt (PySem.F.args_tuple_lt_2 _ _) (SeqAt.tuple_ltAt a a' its.toArray its'.toArray n n' dd dd' sl sl' (fun j => k[j]? == k'[j]?) (fun j => decide ((k.getD j "").cps.toList < (k'.getD j "").cps.toList))) ⟨h1, h1', fun j q1 q2 => ?_, fun j q1 q2 hne => ?_, ?_⟩
  · obtain ⟨x, tx, e1, e2⟩ := vals_at r (j := j) (by simpa using q1)
    obtain ⟨y, ty, e3, e4⟩ := vals_at r' (j := j) (by simpa using q2)
    have f1 : its.toArray[j] = Value.str x tx := by simpa using e2
    have f2 : its'.toArray[j] = Value.str y ty := by simpa using e4
    rw [f1, f2, e1, e3]
    have : (some x == some y) = (x == y) := rfl
    rw [this]
    exact SeqAt.EqAt.str_str x tx y ty
  · obtain ⟨x, tx, e1, e2⟩ := vals_at r (j := j) (by simpa using q1)
    obtain ⟨y, ty, e3, e4⟩ := vals_at r' (j := j) (by simpa using q2)
    have f1 : its.toArray[j] = Value.str x tx := by simpa using e2
    have f2 : its'.toArray[j] = Value.str y ty := by simpa using e4
    rw [f1, f2]
    have g1 : k.getD j "" = x := by rw [List.getD_eq_getElem?_getD, e1]; rfl
    have g2 : k'.getD j "" = y := by rw [List.getD_eq_getElem?_getD, e3]; rfl
    rw [g1, g2]
    intro prog' w' E' Q' hq
    exact (PyProof.Rows.lt_str hq : wpAny (model prog' w') A.in1 (compareOp .Lt (.str x tx) (.str y ty)) Q' E' s)
  · have e : SeqAt.firstLt (fun j => k[j]? == k'[j]?) (fun j => decide ((k.getD j "").cps.toList < (k'.getD j "").cps.toList)) (decide (its.toArray.size < its'.toArray.size)) (List.range (min its.toArray.size its'.toArray.size)) = lexS k k' := by
      rw [List.size_toArray, List.size_toArray, ← l1, ← l2]
      exact firstLt_S k k'
    rw [e]
    exact wpAny_truthy_bool h
end
end Rw
/-! RwOb: sorted of a list of tuples of texts, the empty one in front. -/
namespace Rw
open PySem PySem.Spec PyProof.Rows L2
section
variable {prog : Program} {w : World} {A : Around} {E : Value → Shared → Prop} {s : Shared}
theorem first_TS {v : Value} {k : List Str} {Q : Option Value → Shared → Prop} (t : TS s.heap v k) (h : ∀ o, (k = [] → o = none) → Q o s) : wpAny (model prog w) A (firstOfTuple' v) Q E s := by
  obtain ⟨a, its, rfl, ⟨o, h1, h2, n, h3⟩, r⟩ := t
  rw [PySem.W.kas_first_eq]
  refine wpAny_bind (PySem.W.Looks.here (show PySem.W.Looks _ s.heap (typeOf (.ref a)) o.cls from (PySem.W.Looks.ld h1).andThen .now) ?_)
  rw [h2, if_neg (by first | decide | simp)]
  refine wpAny_bind (listItems_at h1 h3 (wpAny_pure (h _ fun e => ?_)))
  subst e
  cases r
  rfl
theorem firsts_TS : ∀ (vs : List Value) {Q : List (Option Value) → Shared → Prop}, (∀ v ∈ vs, ∃ k, TS s.heap v k) → (∀ os, Q os s) → wpAny (model prog w) A (vs.mapM firstOfTuple') Q E s
  | [], Q, _, h => by rw [List.mapM_nil]; exact wpAny_pure (h [])
  | v :: vs, Q, ht, h => by
    obtain ⟨k, t⟩ := ht v List.mem_cons_self
    rw [List.mapM_cons]
    exact wpAny_bind (first_TS t fun o _ => wpAny_bind (firsts_TS vs (fun u hu => ht u (List.mem_cons_of_mem _ hu)) fun os => wpAny_pure (h (o :: os))))
theorem kind_TS {v : Value} {vs : List Value} {Q : SortKind → Shared → Prop} (t : TS s.heap v []) (ht : ∀ u ∈ vs, ∃ k, TS s.heap u k) (h : Q oneType' s) : wpAny (model prog w) A (keyKind' (v :: vs).toArray) Q E s := by
  have hT : ∀ u ∈ v :: vs, PySem.W.Looks (model prog w) s.heap (typeOf u) (.type "tuple") := fun u hu => by
    have : ∃ k, TS s.heap u k := by
      rcases List.mem_cons.mp hu with rfl | hu
      · exact ⟨_, t⟩
      · exact ht u hu
    obtain ⟨k, a, its, rfl, ⟨o, h1, h2, n, h3⟩, r⟩ := this
    have q : PySem.W.Looks (model prog w) s.heap (typeOf (.ref a)) o.cls := (PySem.W.Looks.ld h1).andThen .now
    rw [h2] at q; exact q
  rw [keyKind'_eq, List.mapM_toArray, map_eq_pure_bind, List.mapM_cons]
  refine wpAny_bind (wpAny_bind (wpAny_bind (first_TS t fun o ho => wpAny_bind (firsts_TS vs ht fun os => wpAny_pure (wpAny_pure ?_)))))
  obtain rfl := ho rfl
  rw [if_neg (by simp), if_neg (by simp)]
  rw [oneTypeOnly'_eq]; rw [List.mapM_toArray, map_eq_pure_bind]
  refine wpAny_bind (wpAny_bind (wpAny_bind (PySem.W.kas_mapM (r := Value.type "tuple") _ (fun u hu Q' hq => (hT u hu).here hq) (wpAny_pure ?_))))
  have ha : ((List.map (fun _ => Value.type "tuple") (v :: vs)).toArray.all fun x => x == Value.type "tuple") = true := by
    rw [List.all_toArray]; simp only [List.all_map, List.all_eq_true]; intro _ _; rfl
  have hz : (List.map (fun _ => Value.type "tuple") (v :: vs)).toArray[0]? = some (Value.type "tuple") := by simp
  rw [hz]
  simp only [ha, if_true]
  exact wpAny_pure (wpAny_pure h)
theorem swo_S (h : Heap) : SrtO.Swo fun v u => lexS (keyTS h v) (keyTS h u) := ⟨fun _ _ q => lexS_asym q, fun _ _ _ q q' => lexS_tr q q'⟩
theorem cmp_S {h0 : Heap} {vs : List Value} (hu : A.units < cLine) (ht : ∀ u ∈ vs, TS s.heap u (keyTS h0 u)) : SrtO.Cmp prog w A s oneType' (fun p => p.1 ∈ vs) (SrtO.lt2 fun v u => lexS (keyTS h0 v) (keyTS h0 u)) := by
  intro p q hm hm'
  show wpAny (model prog w) A (keyLt' oneType' p.1 q.1) (fun r s' => s' = s ∧ r = lexS (keyTS h0 p.1) (keyTS h0 q.1)) (fun _ _ => False) s
  rw [keyLt'_oneType]
  exact oneLt_TS hu (ht _ hm) (ht _ hm') ⟨rfl, rfl⟩
end
abbrev IsK (K : PySem.W.Frag) (H : Hp) (x : V) (k : List Str) : Prop := ∃ b, x = V.ref b ∧ SqT K H b (k.map V.str)
/-- sorted(xs), xs a list of tuples of texts, the empty one in front -/
def rSoL (K : PySem.W.Frag) : List V → Hp → VK → Prop := fun vs H Q => ∃ (a : Addr) (xs : List V) (ks : List (List Str)), vs = [V.ref a] ∧ SqL K H a xs ∧ Paired (fun x k => IsK K H x k) xs ks ∧ ks.head? = some [] ∧
  ∀ ys p, Paired (fun x k => x ∈ xs ∧ IsK K H x k) ys (ks.mergeSort leS) → H p = none → Q (.ref p) (upd H p (.lst ys))
theorem ts_at {X : Cx} {pins : List (Addr × Obj)} {σ : L2.St} {H : Hp} {s : Shared} {b : Addr} {k : List Str} (I : L2.Inv X pins σ H s) (h : SqT X.K H b (k.map V.str)) : TS s.heap (.ref b) k := by
  obtain ⟨its, r, p, _⟩ := I.tuple h
  exact ⟨b, its, rfl, p, r⟩
theorem cr_soL {X : Cx} (hu : X.A.units + 16 < cLine) : CallR X (.builtin "sorted") (rSoL X.K) := by
  intro pins s σ H vs us Q I r h
  obtain ⟨a, xs, ks, rfl, hs, hx, hd, q⟩ := h
  obtain ⟨its, rv, hl, hz⟩ := I.list hs
  obtain ⟨u, rfl, ru⟩ := vals1 r
  obtain rfl : u = Value.ref a := ru
  have hmem : ∀ x ∈ xs, ∃ k, IsK X.K H x k := fun x hm => by
    have : ∀ {xs : List V} {ks : List (List Str)}, Paired (fun x k => IsK X.K H x k) xs ks → x ∈ xs → ∃ k, IsK X.K H x k := by
      intro xs ks hp
      induction hp with
      | nil => intro h; cases h
      | cons h t ih =>
        intro hm
        rcases List.mem_cons.mp hm with rfl | hm
        · exact ⟨_, h⟩
        · exact ih hm
    exact this hx hm
  obtain ⟨e1, e2⟩ := refs_back rv fun x m => by
    obtain ⟨_, b, e, _⟩ := hmem x m
    exact ⟨b, e⟩
  have hts : ∀ v ∈ its, ∃ k b, v = Value.ref b ∧ SqT X.K H b (k.map V.str) ∧ TS s.heap v k := fun v hv => by
    obtain ⟨b, rfl⟩ := e2 v hv
    obtain ⟨k, b', e, t⟩ := hmem (V.ref b) (by rw [e1]; exact List.mem_map.mpr ⟨_, hv, rfl⟩)
    cases e
    exact ⟨k, b, rfl, t, ts_at I t⟩
  have hks : its.map (keyTS s.heap) = ks := by
    have : ∀ {its : List Value} {ks : List (List Str)}, (∀ v ∈ its, ∃ b, v = Value.ref b) → Paired (fun x k => IsK X.K H x k) (its.map backV) ks → its.map (keyTS s.heap) = ks := by
      intro its
      induction its with
      | nil => intro ks _ h; cases h; rfl
      | cons v its ih =>
        intro ks hr h
        rw [List.map_cons] at h
        obtain ⟨b, rfl⟩ := hr v List.mem_cons_self
        cases h with
        | cons h t =>
          obtain ⟨b', e, t'⟩ := h
          cases e
          rw [List.map_cons, keyTS_is (ts_at I t'), ih (fun u hu => hr u (List.mem_cons_of_mem _ hu)) t]
    exact this e2 (by rw [← e1]; exact hx)
  refine SrtO.sorted_ord (swo_S s.heap) hl.isList (by rw [← rv.length]; exact hz) (fun h2 h₁ a' ha kk => ?_) fun out h1 h2 => ?_
  · intro h' keep
    have hT : ∀ v ∈ its, TS h' v (keyTS s.heap v) := fun v hv => by
      obtain ⟨k, b, rfl, t, ts⟩ := hts v hv
      rw [keyTS_is ts]
      refine ts.keep fun c o hc hcl => keep c o (kk c o hc).1 (kk c o hc).2
    refine ⟨oneType', fun Q' E' hq => ?_, cmp_S (s := { s with heap := h' }) (show X.A.in1.in1.units < cLine by show X.A.units + 1 + 1 < cLine; omega) hT⟩
    cases its with
    | nil => simp at h2
    | cons v its =>
      rw [List.map_cons] at hks
      rw [← hks] at hd
      have hk0 : keyTS s.heap v = [] := Option.some.inj hd
      refine kind_TS (s := { s with heap := h' }) ?_ (fun u hu => ⟨_, hT u (List.mem_cons_of_mem _ hu)⟩) hq
      have := hT v List.mem_cons_self
      rw [hk0] at this; exact this
  · obtain ⟨ep, he'⟩ := PyProof.Rows.sortedAll_at s.heap its out.toArray
    have h3 : ∀ u ∈ out, ∃ a, u = Value.ref a := fun u hu => e2 u (h2.perm.mem_iff.mp hu)
    have hlen : (out.map backV).length ≤ sizeLine := by
      rw [List.length_map, h2.perm.length_eq, ← rv.length]; exact hz
    have hso : out.map (keyTS s.heap) = ks.mergeSort leS := sortL_uniq (by rw [← hks]; exact h2.perm.map _) (List.pairwise_map.mpr h1)
    refine ⟨.ref _, upd H (s.heap.objs.size + 1) (.lst (out.map backV)), I.laid (t' := s.toks) (fun _ _ => PyProof.Rows.sortedAll_old) (Nat.le_succ _) ⟨hlen, out, ep, vals_back h3, he'⟩, rfl, q _ _ ?_ (I.hok.fresh (Nat.le_succ _))⟩
    rw [← hso]
    have : ∀ l : List Value, (∀ v ∈ l, v ∈ its) → Paired (fun x k => x ∈ xs ∧ IsK X.K H x k) (l.map backV) (l.map (keyTS s.heap)) := by
      intro l
      induction l with
      | nil => intro _; exact .nil
      | cons v l ih =>
        intro hl
        rw [List.map_cons, List.map_cons]
        obtain ⟨k, b, rfl, t, ts⟩ := hts v (hl v List.mem_cons_self)
        refine .cons ⟨by rw [e1]; exact List.mem_map.mpr ⟨_, hl _ List.mem_cons_self, rfl⟩, b, rfl, ?_⟩ (ih fun u hu => hl u (List.mem_cons_of_mem _ hu))
        rw [keyTS_is ts]; exact t
    exact this out fun v hv => h2.perm.mem_iff.mp hv
theorem dpa_keys {K : PySem.W.Frag} {G : Hp} : ∀ {xs : List V} {ks : List (List Str)}, DpAll K G xs (ks.map encK) → Paired (fun x k => IsK K G x k) xs ks
  | _, [], h => by cases h; exact .nil
  | _, k :: ks, h => by
    rw [List.map_cons] at h
    cases h with
    | cons h t =>
      cases h with
      | tup h hs =>
        rw [dpa_strs hs] at h
        exact .cons ⟨_, rfl, h⟩ (dpa_keys t)
theorem dpa_strsOf {K : PySem.W.Frag} {G : Hp} : ∀ l : List Str, DpAll K G (l.map V.str) (l.map .str)
  | [] => .nil
  | y :: l => .cons (.str y) (dpa_strsOf l)
theorem keys_dpa {K : PySem.W.Frag} {G : Hp} : ∀ {xs : List V} {ks : List (List Str)}, Paired (IsK K G) xs ks → DpAll K G xs (ks.map encK)
  | _, _, .nil => .nil
  | _, _, @Paired.cons _ _ _ _ k _ _ ⟨b, e, h⟩ t => by
    subst e
    rw [List.map_cons]
    exact .cons (.tup h (dpa_strsOf k)) (keys_dpa t)
theorem isK_mono {K : PySem.W.Frag} {G H : Hp} (e : Same G H) {xs : List V} {ks : List (List Str)} (h : Paired (IsK K G) xs ks) : Paired (IsK K H) xs ks := Paired.mapP h fun x k ⟨b, e1, t⟩ => ⟨b, e1, sqt_mono e t⟩
theorem isK_back {K : PySem.W.Frag} {G H : Hp} (e : Same G H) {xs ys : List V} {ks ls : List (List Str)} (h : Paired (IsK K G) xs ks) (hu : ∀ (b : Addr) (k k' : List Str), SqT K H b (k.map V.str) → SqT K H b (k'.map V.str) → k = k') (h' : Paired (fun x k => x ∈ xs ∧ IsK K H x k) ys ls) : Paired (IsK K G) ys ls := by
  refine Paired.mapP h' fun x k ⟨hx, b, e1, t⟩ => ?_
  have : ∀ {xs : List V} {ks : List (List Str)}, Paired (IsK K G) xs ks → x ∈ xs → ∃ k', IsK K G x k' := by
    intro xs ks hp
    induction hp with
    | nil => intro h; cases h
    | cons h t ih =>
      intro hm
      rcases List.mem_cons.mp hm with rfl | hm
      · exact ⟨_, h⟩
      · exact ih hm
  obtain ⟨k', b', e2, t2⟩ := this h hx
  rw [e1] at e2
  cases e2
  have := hu b k k' t (sqt_mono e t2)
  subst this
  exact ⟨b, e1, t2⟩
/-- sorted(xs) as data -/
theorem rc_soL {X : Cx} {μ : MU} {x : DE} {ks : List (List Str)} (h : Dv μ x (.list (ks.map encK))) (h0 : ks.head? = some []) (hl : ks.length ≤ 1000) : RC X.K (fun vs H Q => (∀ (b : Addr) (k k' : List Str), SqT X.K H b (List.map V.str k) → SqT X.K H b (List.map V.str k') → k = k') → rSoL X.K vs H Q) [x] μ μ (.d (.list ((ks.mergeSort leS).map encK))) := fun G H A vs S r Q q hu => by
  obtain ⟨v, rfl, r1⟩ := Rp.one r
  obtain ⟨p, xs, rfl, t, dd⟩ := r1.lst S h
  have hk := dpa_keys dd
  refine ⟨p, xs, ks, rfl, t, isK_mono S.ex hk, h0, fun ys pp hy hp => q.newL S hp (keys_dpa (isK_back S.ex hk hu hy))⟩
theorem cr_soLx {X : Cx} (hu : X.A.units + 16 < cLine) : CallR X (.builtin "sorted") (fun vs H Q => (∀ (b : Addr) (k k' : List Str), SqT X.K H b (List.map V.str k) → SqT X.K H b (List.map V.str k') → k = k') → rSoL X.K vs H Q) := by
  intro pins s σ H vs us Q I r h
  exact cr_soL hu pins s σ H vs us Q I r (h fun b k k' t t' => (ts_at I t).uniq (ts_at I t'))
/-- sorted(xs), xs lots -/
theorem ev_soL {X : Cx} {env : LE} {μ μ1 : MU} {a : Expr} {x : DE} {ks : List (List Str)} {p pos : Pos} (ha : Ev X a env μ μ1 x) (hx : Dv μ1 x (.list (ks.map encK))) (h0 : ks.head? = some []) (hl : ks.length ≤ 1000) (hu : X.A.units + 16 < cLine) (hg : Gl X "sorted") (hm : X.mg "sorted" = none)
    (hs : starEach [a] X.env = (false, eval a X.env) :: starEach [] X.env := by rfl) : Ev X (.Call (.Name "sorted" p) [a] [] pos) env μ μ1 (.d (.list ((ks.mergeSort leS).map encK))) :=
  ev_callB (cr_soLx hu) hg hm (by decide +kernel) (ea_cons ha ea_nil hs) (rc_soL hx h0 hl) (by decide) (by decide) hs rfl
end Rw
/-! RwOc: sorted(lots, key=len), max(lots, key=len). -/
namespace Rw
open PySem PySem.Spec PyProof.Rows L2
def leN (a b : List Str) : Bool := decide (a.length ≤ b.length)
/-- the first one of the longest -/
def bestI (ks : List (List Str)) : Nat := argBest (fun i j => decide (((ks.getD i []).length : Int) > ((ks.getD j []).length : Int))) (ks.length - 1)
def bestK (ks : List (List Str)) : List Str := ks.getD (bestI ks) []
section
variable {prog : Program} {w : World} {A : Around} {E : Value → Shared → Prop} {s : Shared}
theorem len_TS {v : Value} {k : List Str} {Q : Value → Shared → Prop} (t : TS s.heap v k) (hl : k.length ≤ 1000) (h : Q (.int k.length (s.toks + 1)) { s with toks := s.toks + 1 + 1 }) : wpAny (model prog w) A (call (.builtin "len") [v]) Q E s := by
  obtain ⟨a, its, rfl, p, r⟩ := t
  have hlen := r.length
  rw [List.length_map] at hlen
  refine len_tuple p (by rw [List.size_toArray]; omega) ?_
  rw [List.size_toArray, ← hlen]
  exact h
theorem eachTS {X : Cx} {pins : List (Addr × Obj)} {σ : L2.St} {H : Hp} {s : Shared} (I : L2.Inv X pins σ H s) {xs : List V} : ∀ {ys : List V} {its : List Value} {ks : List (List Str)}, Vals ys its → (∀ y ∈ ys, y ∈ xs) → Paired (IsK X.K H) ys ks → PySem.W.EachIs (fun v k => ∃ b, v = Value.ref b ∧ V.ref b ∈ xs ∧ SqT X.K H b (k.map V.str)) its ks
  | _, _, _, .nil, _, .nil => .nil
  | _, _, _, .cons r rt, hm, .cons ⟨b, e, t⟩ kt => by
    subst e
    cases r
    exact .cons ⟨b, rfl, hm _ List.mem_cons_self, t⟩ (eachTS I rt (fun y hy => hm y (List.mem_cons_of_mem _ hy)) kt)
theorem eachBack {K : PySem.W.Frag} {H : Hp} {xs : List V} : ∀ {its : List Value} {ks : List (List Str)}, PySem.W.EachIs (fun v k => ∃ b, v = Value.ref b ∧ V.ref b ∈ xs ∧ SqT K H b (k.map V.str)) its ks → ∃ ys, Vals ys its ∧ Paired (fun x k => x ∈ xs ∧ IsK K H x k) ys ks
  | _, _, .nil => ⟨[], .nil, .nil⟩
  | _, _, .cons ⟨b, e, hm, t⟩ r => by
    subst e
    obtain ⟨ys, h1, h2⟩ := eachBack r
    exact ⟨V.ref b :: ys, .cons rfl h1, .cons ⟨hm, b, rfl, t⟩ h2⟩
end
section
variable {X : Cx} {env : LE} {μ μ1 : MU} {x : DE} {a : Expr} {p p2 kp pos : Pos} {ks : List (List Str)}
theorem kw_len {pins : List (Addr × Obj)} {σ : L2.St} {H : Hp} {s : Shared} {Q : List Value → Shared → Prop} {nm : Option Str} (I : L2.Inv X pins σ H s) (hg : Gl X "len") (hm : X.mg "len" = none) (h : Q [Value.builtin "len"] s) :
    wpAny (model X.prog X.w) X.A (evalAll ((backToKw pos (keywordEach [⟨nm, .Name "len" p2, kp⟩] X.env)).map (·.2))) Q X.xe s := by
  show wpAny _ _ (evalAll ((do let v ← eval (.Name "len" p2) X.env; standAt pos; pure v) :: [])) _ _ s
  exact wpAny_evalAll_cons (wpAny_bind (ld_blt I hg hm PySem.boot_len (wpAny_bind (wpAny_standAt (wpAny_pure (wpAny_evalAll_nil h))))))
/-- sorted(xs, key=len) -/
theorem ev_soN (ha : Ev X a env μ μ1 x) (hx : Dv μ1 x (.list (ks.map encK))) (hl : ks.length ≤ 1000) (hk : ∀ k ∈ ks, k.length ≤ 1000) (hu : X.A.units + 16 < cLine) (hg : Gl X "sorted") (hm : X.mg "sorted" = none) (hg2 : Gl X "len") (hm2 : X.mg "len" = none)
    (hs : starEach [a] X.env = (false, eval a X.env) :: starEach [] X.env := by rfl) (he : backTo pos (starEach [a] X.env) = (false, eval a X.env) :: backTo pos (starEach [] X.env) := by rfl) (hpl : (backTo pos (starEach [a] X.env)).any (·.1) = false := by rfl) : Ev X (.Call (.Name "sorted" p) [a] [⟨some "key", .Name "len" p2, kp⟩] pos) env μ μ1 (.d (.list ((ks.mergeSort leN).map encK))) := .mk fun σ G H A E S Q q pins s I => by
  refine wpAny_Call_Name_kw (ld_blt I hg hm (show bootBuiltins "sorted" = some (.builtin "sorted") by decide +kernel) ?_)
  refine PyProof.Rows.callWith_kw (thn ((ea_cons ha ea_nil hs).run σ G H A E S (fun vs H1 => ∃ G1 A1, Same G G1 ∧ Mv G A H G1 A1 H1 ∧ Sit X.K G1 H1 A1 μ1 ∧ RpL X.K G1 A1 vs [x]) (fun vs G1 H1 A1 e1 m1 S1 r1 => ⟨G1, A1, e1, m1, S1, r1⟩) pos pins s I) fun us s1 ⟨vs, H1, I1, ru, G1, A1, e1, m1, S1, r1⟩ => kw_len I1 hg2 hm2 ?_) he hpl rfl rfl
  obtain ⟨v, rfl, r2⟩ := Rp.one r1
  obtain ⟨pl, xs, rfl, t, dd⟩ := r2.lst S1 hx
  obtain ⟨u, rfl, ru2⟩ := vals1 ru
  obtain rfl : u = Value.ref pl := ru2
  obtain ⟨its, rv, hL, hz⟩ := I1.list t
  have hK := dpa_keys dd
  have hE := eachTS I1 rv (fun y hy => hy) (isK_mono S1.ex hK)
  show wpAny _ _ (call (.builtin "sorted") [.ref pl] [(Str.ofString "key", .builtin "len")]) _ _ s1
  have hlt : ∀ x, x ∈ ks → X.A.units + 2 + (PyData.int (x.length : Int)).depth < cLine := fun x _ => by
    have : (PyData.int (x.length : Int)).depth = 0 := by simp [PyData.depth]
    omega
  refine PySem.W.sorted_key_data (b := false) (f := .builtin "len") (fun k : List Str => .int (k.length : Int)) hL.isList hE (PySem.W.AllAlike.of fun _ _ => by simp [PySem.W.alike]) (PySem.W.Sortable.others fun _ => ⟨(fun z => by cases z), fun _ z => by cases z⟩) (by rw [sizeLine_eq]; omega) hlt (ksk_s1 _ _) (fun _ => ksk_l1 _ _) (fun y => ksk_t4 "len" y) (fun v k hR hk' h tk kk => ?_) fun out c h' tk kk hn hD hlen hO => ?_
  · obtain ⟨b, rfl, _, tb⟩ := hR
    have ts : TS h (.ref b) k := (ts_at I1 tb).keep fun c o hc _ => kk c o hc
    exact len_TS (s := { s1 with heap := h, toks := tk }) ts (hk k hk') ⟨h, _, rfl, fun _ _ z => z, .int _ _⟩
  · obtain ⟨ys, hy1, hy2⟩ := eachBack hO
    have hle : (fun k : List Str => PyData.int (k.length : Int)) = fun b => .int ((fun k : List Str => (k.length : Int)) b) := rfl
    have hso : ks.mergeSort (PySem.W.dataLe false fun k : List Str => PyData.int (k.length : Int)) = ks.mergeSort leN := by
      rw [hle, PySem.W.dataLe_int]
      congr 1
      funext a b
      unfold leN
      rw [decide_eq_decide]; omega
    rw [hso] at hy2
    have hfr := I1.hok.fresh (Nat.le_succ s1.heap.objs.size)
    refine ⟨.ref _, upd H1 (s1.heap.objs.size + 1) (.lst ys), I1.laid (t' := tk) kk (Nat.le_succ _) ⟨by rw [hy1.length, hlen]; exact Nat.le_trans hl (by decide), out, c, hy1, hD⟩, rfl, ?_⟩
    exact (q.mono e1 m1).newL S1 hfr (keys_dpa (isK_back S1.ex hK (fun b k k' t t' => (ts_at I1 t).uniq (ts_at I1 t')) hy2))
/-- max(xs, key=len) -/
theorem ev_maxN (hc : X.calm = true) (ha : Ev X a env μ μ1 x) (hx : Dv μ1 x (.list (ks.map encK))) (h0 : 0 < ks.length) (hk : ∀ k ∈ ks, k.length ≤ 1000) (hg : Gl X "max") (hm : X.mg "max" = none) (hg2 : Gl X "len") (hm2 : X.mg "len" = none)
    (hs : starEach [a] X.env = (false, eval a X.env) :: starEach [] X.env := by rfl) (he : backTo pos (starEach [a] X.env) = (false, eval a X.env) :: backTo pos (starEach [] X.env) := by rfl) (hpl : (backTo pos (starEach [a] X.env)).any (·.1) = false := by rfl) : Ev X (.Call (.Name "max" p) [a] [⟨some "key", .Name "len" p2, kp⟩] pos) env μ μ1 (.d (encK (bestK ks))) := .mk fun σ G H A E S Q q pins s I => by
  refine wpAny_Call_Name_kw (ld_blt I hg hm (show bootBuiltins "max" = some (.builtin "max") by decide +kernel) ?_)
  refine PyProof.Rows.callWith_kw (thn ((ea_cons ha ea_nil hs).run σ G H A E S (fun vs H1 => ∃ G1 A1, Same G G1 ∧ Mv G A H G1 A1 H1 ∧ Sit X.K G1 H1 A1 μ1 ∧ RpL X.K G1 A1 vs [x]) (fun vs G1 H1 A1 e1 m1 S1 r1 => ⟨G1, A1, e1, m1, S1, r1⟩) pos pins s I) fun us s1 ⟨vs, H1, I1, ru, G1, A1, e1, m1, S1, r1⟩ => kw_len I1 hg2 hm2 ?_) he hpl rfl rfl
  obtain ⟨v, rfl, r2⟩ := Rp.one r1
  obtain ⟨pl, xs, rfl, t, dd⟩ := r2.lst S1 hx
  obtain ⟨u, rfl, ru2⟩ := vals1 ru
  obtain rfl : u = Value.ref pl := ru2
  obtain ⟨its, rv, hL, hz⟩ := I1.list t
  have hxl : xs.length = ks.length := by rw [dpa_len dd, List.length_map]
  have hil : its.length = ks.length := by rw [← rv.length]; exact hxl
  have hh : X.A.in1.handled = none := I1.ok.hd hc
  have hit : ∀ (i : Nat) (v : Value), its.toArray[i]? = some v → ∃ (k : List Str) (b : Addr), ks[i]? = some k ∧ xs[i]? = some (V.ref b) ∧ v = Value.ref b ∧ SqT X.K G1 b (k.map V.str) := fun i v hv => by
    have hv : its[i]? = some v := by simpa using hv
    have hi : i < ks.length := by rw [← hil]; exact lt_get hv
    have hki : ks[i]? = some ks[i] := List.getElem?_eq_getElem hi
    obtain ⟨y, hy, hd⟩ := dpa_get (i := i) (d := encK ks[i]) dd (by rw [List.getElem?_map, hki]; rfl)
    cases hd with
    | @tup b _ _ hb hs =>
      rw [dpa_strs hs] at hb
      obtain ⟨u', h1, h2⟩ := rv.get hy
      rw [hv] at h1
      cases h1
      exact ⟨_, b, hki, hy, h2, hb⟩
  show wpAny _ _ (call (.builtin "max") [.ref pl] [(Str.ofString "key", .builtin "len")]) _ _ s1
  refine call_max_walkKB (PySem.W.iter_listW (A := X.A.in1) hh hL.isList fun s₂ e W st hfp hw hk2 => ?_)
  refine ⟨_, _, _, _, _, _, _, fun s' => ∃ h' tk, s' = { s1 with heap := h', toks := tk } ∧ ∀ b o, s1.heap.get? b = some o → h'.get? b = some o, fun i k _ => ∃ t, k = Value.int ((ks.getD i []).length : Int) t, fun i j => decide (((ks.getD i []).length : Int) > ((ks.getD j []).length : Int)), rfl, W, st, hfp, by rw [List.size_toArray]; omega, ⟨?_, ?_, ?_, ?_⟩, ?_, ?_⟩
  · rintro s' s'' ⟨h', tk, rfl, kk⟩ m
    refine ⟨s''.heap, s''.toks, ?_, fun b o hb => m.heap b o (fun hbm => ?_) (kk b o hb)⟩
    · obtain ⟨hp2, g2, d2, t2, o2⟩ := s''
      have m1 := m.gens
      have m2 := m.drawn
      have m3 := m.os
      simp only at m1 m2 m3 ⊢
      rw [m1, m2, m3]
    · have hlt := Heap.lt_size hb
      have e2 : s₂.heap.objs.size = s1.heap.objs.size + 1 := by rw [e]; exact Heap.size_push _ _
      rcases List.mem_cons.mp hbm with z | z
      · rw [z, e2] at hlt; exact absurd hlt (Nat.not_lt.mpr (Nat.le_succ _))
      · rw [List.mem_singleton.mp z] at hlt; exact Nat.lt_irrefl _ hlt
  · rintro i k s' s'' hV _
    exact hV
  · rintro i v s' o Q' E' hi hP ⟨h', tk, rfl, kk⟩ hst ho hq
    obtain ⟨k, b, h1, h2, rfl, h3⟩ := hit i v hP
    have ts : TS h' (.ref b) k := (ts_at I1 (sqt_mono S1.ex h3)).keep fun c o hc _ => kk c o hc
    have hgd : ks.getD i [] = k := by rw [List.getD_eq_getElem?_getD, h1]; rfl
    refine len_TS (s := { s1 with heap := h', toks := tk }) ts (hk k (List.mem_of_getElem? h1)) (hq _ _ ⟨h', _, rfl, kk⟩ hst ho (by show ∃ t, _; rw [hgd]; exact ⟨_, rfl⟩) fun j k' z => z)
  · rintro i j ki kj s' Q' E' _ ⟨t1, rfl⟩ ⟨t2, rfl⟩ hq
    exact (PyProof.Rows.gt_int hq : wpAny (model X.prog X.w) X.A.in1 (compareOp .Gt (.int _ t1) (.int _ t2)) Q' E' s')
  · exact ⟨_, _, e, fun b o hb => Heap.get?_push_of_some _ hb⟩
  · rintro v s' hP ⟨h', tk, rfl, kk⟩
    obtain ⟨k, b, h1, h2, rfl, h3⟩ := hit _ v hP
    have hb : bestK ks = k := by
      unfold bestK bestI
      rw [List.size_toArray, hil] at h1
      rw [List.getD_eq_getElem?_getD, h1]; rfl
    refine ⟨V.ref b, H1, I1.kept (t' := tk) kk, rfl, (q.mono e1 m1).now S1 ?_⟩
    rw [hb]
    exact .d (.tup h3 (dpa_strsOf k))
end
end Rw
/-! RwOd: sorted(a tuple of texts). -/
namespace Rw
open PySem PySem.Spec PyProof.Rows L2
def leT (a b : Str) : Bool := decide (a.cps.toList ≤ b.cps.toList)
def sortT (ss : List Str) : List Str := ss.mergeSort leT
theorem sortT_pw (ss : List Str) : (sortT ss).Pairwise (fun a b => a.cps.toList ≤ b.cps.toList) := by
  refine (List.pairwise_mergeSort (le := leT) (fun a b c h h' => ?_) (fun a b => ?_) ss).imp fun {a b} h => of_decide_eq_true h
  · exact decide_eq_true (List.le_trans (of_decide_eq_true h) (of_decide_eq_true h'))
  · unfold leT
    rw [Bool.or_eq_true, decide_eq_true_eq, decide_eq_true_eq]
    exact List.le_total _ _
theorem sortT_uniq {ss l : List Str} (hp : l.Perm ss) (hs : l.Pairwise (fun a b => a.cps.toList ≤ b.cps.toList)) : l = sortT ss :=
  List.Perm.eq_of_pairwise (le := fun a b : Str => a.cps.toList ≤ b.cps.toList) (fun a b _ _ h1 h2 => str_ext (List.le_antisymm h1 h2)) hs (sortT_pw ss) (hp.trans (List.mergeSort_perm ss leT).symm)
theorem sortT_perm (ss : List Str) : (sortT ss).Perm ss := List.mergeSort_perm ss leT
section
variable {P : Program} {w : World} {A : Around} {E : Value → Shared → Prop} {s : Shared}
theorem sorted_tupS {t : Addr} {vs : List Value} {ss : List Str} {Q : Value → Shared → Prop} (ht : IsTup s.heap t vs.toArray) (hS : StrsAre vs ss) (h64 : ss.length < 64)
    (hQ : ∀ (g h' : Heap) (p : Addr) (out : Array Value) (c : Nat), (∀ b o, s.heap.get? b = some o → g.get? b = some o) → (∀ b o, g.get? b = some o → h'.get? b = some o) → g.objs.size ≤ p → h'.get? p = some (seqObj "list" out c) → StrsAre out.toList (sortT ss) → Q (.ref p) { s with heap := h' }) :
    wpAny (model P w) A (call (.builtin "sorted") [.ref t]) Q E s := by
  obtain ⟨o, h1, h2, n, h3⟩ := ht
  have hvl : vs.length = ss.length := hS.length
  refine Calls.call_function_entry kind_sorted plain_sorted entry_sorted (args_sorted1 _) ?_
  unfold Builtin.«sorted»
  refine wpAny_bind (m := checkCount "sorted" 1 1 _) (wpAny_pure (wpAny_bind (wpAny_collect_seq t (.inr rfl) h1 h2 h3 (fun g hk => ?_) (by rw [List.size_toArray, hvl, sizeLine_eq]; omega))))
  refine wpAny_bind (wpAny_newList ?_ (by show vs.toArray.toList.length ≤ _; rw [List.toList_toArray, hvl, sizeLine_eq]; omega))
  rw [List.toList_toArray]
  have hL : (g.push (seqObj "list" vs.toArray 0)).get? g.objs.size = some (seqObj "list" vs.toArray 0) := Heap.get?_push_size _ rfl
  refine wpAny_bind (wpAny_holding (wpAny_call_entry slot_list_sort ⟨_, hL, rfl⟩ entry_list_sort (list_sort_treeK strKind_oneLt hL hS.keysOf (fun v₁ v₂ rest e => keyKind_strs (by rw [← e]; exact hS)) (by rw [hvl]; exact h64) fun st' a1 a2 => ⟨_, rfl, ?_⟩) (args_list_sort _)))
  obtain ⟨ys, b1, b2, b3⟩ := sorted_out_str hS a1 a2
  obtain ⟨c, hc⟩ := sortedHeap_at (vs := vs) (out := (arrOf st').map (·.2)) hL
  have ey := sortT_uniq b2 (sorted_pw b3)
  subst ey
  refine wpAny_pure ⟨_, rfl, hQ g _ g.objs.size _ c hk (fun b u q => ?_) (Nat.le_refl _) hc b1⟩
  have hlt := Heap.lt_size q
  show (sortedHeap (g.push (seqObj "list" vs.toArray 0)) g.objs.size vs _).get? b = some u
  rw [sortedHeap_old (Nat.ne_of_lt hlt) (by rw [size_push']; exact Nat.lt_succ_of_lt hlt)]; exact Heap.get?_push_of_some _ q
end
def rSoT (K : PySem.W.Frag) : List V → Hp → VK → Prop := fun vs H Q => ∃ (t : Addr) (ss : List Str), vs = [V.ref t] ∧ SqT K H t (ss.map V.str) ∧ ss.length < 64 ∧ ∀ p, H p = none → Q (.ref p) (upd H p (.lst ((sortT ss).map V.str)))
theorem cr_soT {X : Cx} : CallR X (.builtin "sorted") (rSoT X.K) := by
  intro pins s σ H vs us Q I r h
  obtain ⟨t, ss, rfl, ht, h64, q⟩ := h
  obtain ⟨u, rfl, ru⟩ := vals1 r
  obtain rfl : u = Value.ref t := ru
  obtain ⟨its, rv, p, hz⟩ := I.tuple ht
  refine sorted_tupS p (by simpa using rv.strs) h64 fun g h' pa out c k1 kk hp hg hS => ?_
  have I2 := I.kept (t' := s.toks) k1
  have hn : H pa = none := I2.hok.fresh hp
  have hlen : ((sortT ss).map V.str).length ≤ sizeLine := by
    rw [List.length_map, (sortT_perm ss).length_eq, sizeLine_eq]; omega
  exact ⟨.ref pa, upd H pa (.lst ((sortT ss).map V.str)), I2.laid (t' := s.toks) kk hp ⟨hlen, out.toList, c, vals_of_strs hS, hg⟩, rfl, q pa hn⟩
theorem ev_soT {X : Cx} {env : LE} {μ μ1 : MU} {a : Expr} {ss : List Str} {p pos : Pos} (ha : Ev X a env μ μ1 (.d (.tuple (ss.map .str)))) (hl : ss.length < 64) (hg : Gl X "sorted") (hm : X.mg "sorted" = none)
    (hs : starEach [a] X.env = (false, eval a X.env) :: starEach [] X.env := by rfl) : Ev X (.Call (.Name "sorted" p) [a] [] pos) env μ μ1 (.d (.list ((sortT ss).map .str))) :=
  ev_callB cr_soT hg hm (by decide +kernel) (ea_cons ha ea_nil hs) (fun G H A vs S r Q q => by
    obtain ⟨v, rfl, r1⟩ := Rp.one r
    obtain ⟨b, xs, rfl, t, dd⟩ := r1.tup S
    rw [dpa_strs dd] at t
    exact ⟨b, ss, rfl, t, hl, fun p hp => q.newL S hp (dpa_strsOf _)⟩) (by decide) (by decide) hs rfl
end Rw
/-! RwP: who gets ashore: one after another, and the least front gap. -/
namespace Rw
open PySem L2
/-- the others' front gap when somebody steps off -/
def goesM (r : Raft) (fs : List Man) (x : Rat) (m : Man) : Option Rat :=
  if (m.rc : Rat) < x - (r.lg : Rat) * ((wt fs - m.hv : Int) : Rat) / (tot r fs : Rat) then none
  else if (m.rc : Rat) < x then some ((x * (tot r fs : Rat) - (m.rc : Rat) * (m.hv : Rat)) / ((tot r fs - m.hv : Int) : Rat)) else some x
def manOf (fs : List Man) (n : Str) : Option Man := fs.find? fun m => decide (m.nm = n)
def goes (r : Raft) (fs : List Man) (x : Rat) (n : Str) : Option Rat := (manOf fs n).bind (goesM r fs x)
def stay (fs : List Man) (lot : List Str) : List Man := fs.filter fun m => !decide (m.nm ∈ lot)
def lessN (lot : List Str) (n : Str) : List Str := lot.filter fun x => !decide (x = n)
def runO (r : Raft) : List Man → Rat → List Str → Option Rat
  | _, x, [] => some x
  | fs, x, n :: o => (goes r fs x n).bind fun y => runO r (stay fs [n]) y o
/-- all orders in which a lot can, one after another -/
def ordL (r : Raft) : Nat → List Man → Rat → List Str → List (List Str)
  | 0, _, _, _ => [[]]
  | k + 1, fs, x, lot => lot.flatMap fun n => match goes r fs x n with
    | none => []
    | some y => (ordL r k (stay fs [n]) y (lessN lot n)).map (n :: ·)
/-- the lesser one -/
def minO : Option Rat → Option Rat → Option Rat
  | none, b => b
  | a, none => a
  | some a, some b => some (if b ≤ a then b else a)
def minL (l : List (Option Rat)) : Option Rat := l.foldl minO none
/-- the least front gap with a lot ashore, step by step -/
def bestG (r : Raft) (fs : List Man) (x : Rat) : Nat → List Str → Option Rat
  | 0, _ => some x
  | k + 1, lot => minL (lot.map fun n => (bestG r fs x k (lessN lot n)).bind fun y => goes r (stay fs (lessN lot n)) y n)
/-! ### plain facts -/
theorem minO_le {a b : Option Rat} {v : Rat} (h : a = some v ∨ b = some v) : ∃ u, minO a b = some u ∧ u ≤ v := by
  rcases h with rfl | rfl
  · cases b with
    | none => exact ⟨v, rfl, Rat.le_refl⟩
    | some b =>
      show ∃ u, some (if b ≤ v then b else v) = some u ∧ u ≤ v
      split
      · exact ⟨b, rfl, by assumption⟩
      · exact ⟨v, rfl, Rat.le_refl⟩
  · cases a with
    | none => exact ⟨v, rfl, Rat.le_refl⟩
    | some a =>
      show ∃ u, some (if v ≤ a then v else a) = some u ∧ u ≤ v
      split
      · exact ⟨v, rfl, Rat.le_refl⟩
      · rename_i h
        exact ⟨a, rfl, Rat.le_of_lt (Rat.not_le.mp h)⟩
theorem minO_mem {a b : Option Rat} {v : Rat} (h : minO a b = some v) : a = some v ∨ b = some v := by
  cases a with
  | none => exact .inr h
  | some a =>
    cases b with
    | none => exact .inl h
    | some b =>
      have h : some (if b ≤ a then b else a) = some v := h
      have h := Option.some.inj h
      by_cases q : b ≤ a
      · rw [if_pos q] at h; exact .inr (by rw [h])
      · rw [if_neg q] at h; exact .inl (by rw [h])
theorem foldl_le : ∀ {l : List (Option Rat)} {a : Option Rat} {v : Rat}, (a = some v ∨ some v ∈ l) → ∃ u, l.foldl minO a = some u ∧ u ≤ v
  | [], a, v, h => by
    rcases h with h | h
    · exact ⟨v, h, Rat.le_refl⟩
    · cases h
  | b :: l, a, v, h => by
    rw [List.foldl_cons]
    have : (∃ u, minO a b = some u ∧ u ≤ v) ∨ some v ∈ l := by
      rcases h with h | h
      · exact .inl (minO_le (.inl h))
      · rcases List.mem_cons.mp h with e | h
        · exact .inl (minO_le (.inr e.symm))
        · exact .inr h
    rcases this with ⟨u, h1, h2⟩ | h
    · obtain ⟨w, h3, h4⟩ := foldl_le (l := l) (.inl h1)
      exact ⟨w, h3, Rat.le_trans h4 h2⟩
    · exact foldl_le (.inr h)
theorem foldl_mem : ∀ {l : List (Option Rat)} {a : Option Rat} {v : Rat}, l.foldl minO a = some v → a = some v ∨ some v ∈ l
  | [], a, v, h => .inl h
  | b :: l, a, v, h => by
    rw [List.foldl_cons] at h
    rcases foldl_mem h with h | h
    · rcases minO_mem h with h | h
      · exact .inl h
      · exact .inr (by rw [h]; exact List.mem_cons_self)
    · exact .inr (List.mem_cons_of_mem _ h)
theorem minL_le {l : List (Option Rat)} {v : Rat} (h : some v ∈ l) : ∃ u, minL l = some u ∧ u ≤ v := foldl_le (.inr h)
theorem minL_mem {l : List (Option Rat)} {v : Rat} (h : minL l = some v) : some v ∈ l := (foldl_mem h).elim (fun z => by cases z) id
theorem wt_ge : ∀ {fs : List Man} {m : Man}, (∀ x ∈ fs, x.ok) → m ∈ fs → m.hv ≤ wt fs
  | x :: fs, m, h, hm => by
    rw [wt_cons]
    have hx := (h x (by simp)).1
    have h2 := (wt_bd (fs := fs) fun y hy => h y (by simp [hy])).1
    rcases List.mem_cons.mp hm with rfl | hm
    · omega
    · have := wt_ge (fs := fs) (fun y hy => h y (by simp [hy])) hm
      omega
  | [], _, _, hm => by cases hm
theorem manOf_mem {fs : List Man} {n : Str} {m : Man} (h : manOf fs n = some m) : m ∈ fs ∧ m.nm = n := by
  unfold manOf at h
  exact ⟨List.mem_of_find?_eq_some h, by have := List.find?_some h; simpa using this⟩
theorem manOf_at : ∀ {fs : List Man} {m : Man}, (fs.map (·.nm)).Nodup → m ∈ fs → manOf fs m.nm = some m
  | x :: fs, m, hn, hm => by
    unfold manOf
    rcases List.mem_cons.mp hm with rfl | hm
    · simp
    · have h := (nd_tail hn).1 m hm
      rw [List.find?_cons, decide_eq_false (fun e => h e.symm)]
      exact manOf_at (nd_tail hn).2 hm
  | [], _, _, hm => by cases hm
theorem stay_sub (fs : List Man) (lot : List Str) : (stay fs lot).Sublist fs := List.filter_sublist
theorem stay_mem {fs : List Man} {lot : List Str} {m : Man} : m ∈ stay fs lot ↔ m ∈ fs ∧ m.nm ∉ lot := by
  unfold stay; rw [List.mem_filter]; simp
theorem stay_stay (fs : List Man) (a b : List Str) : stay (stay fs a) b = stay fs (a ++ b) := by
  unfold stay
  rw [List.filter_filter]
  congr 1
  funext m
  by_cases h1 : m.nm ∈ a <;> by_cases h2 : m.nm ∈ b <;> simp [h1, h2]
theorem stay_congr {fs : List Man} {a b : List Str} (h : ∀ n, n ∈ a ↔ n ∈ b) : stay fs a = stay fs b := by
  unfold stay
  congr 1
  funext m
  rw [decide_eq_decide.mpr (h m.nm)]
theorem stay_nil (fs : List Man) : stay fs [] = fs := by unfold stay; rw [List.filter_eq_self]; simp
theorem Men.stay {fs : List Man} (h : Men fs) (lot : List Str) : Men (stay fs lot) := ⟨Nat.le_trans (stay_sub fs lot).length_le h.1, fun m hm => h.2 m (stay_sub fs lot |>.mem hm)⟩
theorem nd_stay {fs : List Man} (h : (fs.map (·.nm)).Nodup) (lot : List Str) : ((stay fs lot).map (·.nm)).Nodup := ((stay_sub fs lot).map _).nodup h
theorem lessN_mem {lot : List Str} {n x : Str} : x ∈ lessN lot n ↔ x ∈ lot ∧ x ≠ n := by unfold lessN; rw [List.mem_filter]; simp
theorem lessN_perm {lot : List Str} {n : Str} (hn : lot.Nodup) (h : n ∈ lot) : lot.Perm (n :: lessN lot n) := by
  refine (List.perm_ext_iff_of_nodup hn (List.nodup_cons.mpr ⟨fun z => (lessN_mem.mp z).2 rfl, List.filter_sublist.nodup hn⟩)).mpr fun x => ?_
  rw [List.mem_cons, lessN_mem]
  by_cases e : x = n
  · subst e; simp [h]
  · simp [e]
theorem lessN_nd {lot : List Str} {n : Str} (hn : lot.Nodup) : (lessN lot n).Nodup := List.filter_sublist.nodup hn
theorem lessN_len {lot : List Str} {n : Str} (hn : lot.Nodup) (h : n ∈ lot) : lot.length = (lessN lot n).length + 1 := by
  have := (lessN_perm hn h).length_eq
  rw [List.length_cons] at this; exact this
/-! ### the lesser the front gap, the better -/
theorem goesM_mono {r : Raft} {fs : List Man} {m : Man} {x x' y : Rat} (hr : r.ok) (hm : Men fs) (hmem : m ∈ fs) (hx : x' ≤ x) (h : goesM r fs x m = some y) : ∃ y', goesM r fs x' m = some y' ∧ y' ≤ y := by
  have hok := hm.2 m hmem
  have hge := wt_ge hm.2 hmem
  have h1 : (1 : Int) ≤ tot r fs - m.hv := by have := hr.2.2.1; unfold tot; omega
  have hd : (0 : Rat) < ((tot r fs - m.hv : Int) : Rat) := rat_pos_of h1
  have hv : (0 : Rat) ≤ (m.hv : Rat) := Rat.le_of_lt (rat_pos_of hok.1)
  have hT : ((tot r fs - m.hv : Int) : Rat) = (tot r fs : Rat) - (m.hv : Rat) := Rat.intCast_sub ..
  unfold goesM at h ⊢
  generalize (r.lg : Rat) * ((wt fs - m.hv : Int) : Rat) / (tot r fs : Rat) = c at *
  by_cases hc : (m.rc : Rat) < x - c
  · rw [if_pos hc] at h; cases h
  · rw [if_neg hc] at h
    have hc' : ¬ (m.rc : Rat) < x' - c := by grind
    rw [if_neg hc']
    rw [hT] at hd h ⊢
    clear hT
    generalize (tot r fs : Rat) = T at *
    generalize (m.hv : Rat) = v at *
    generalize (m.rc : Rat) = q at *
    by_cases hq : q < x
    · rw [if_pos hq] at h
      have h := Option.some.inj h
      subst h
      by_cases hq' : q < x'
      · rw [if_pos hq']
        refine ⟨_, rfl, div_mono ?_ hd⟩
        have := Rat.mul_le_mul_of_nonneg_right hx (show (0 : Rat) ≤ T by grind)
        grind
      · rw [if_neg hq']
        refine ⟨x', rfl, ?_⟩
        have e : x' = (x' * (T - v)) / (T - v) := by grind
        have a1 : (0 : Rat) ≤ q - x' := by grind
        have a2 := Rat.mul_le_mul_of_nonneg_right (show q - x' ≤ x - x' by grind) (show (0 : Rat) ≤ T by grind)
        have a3 := Rat.mul_le_mul_of_nonneg_left (show v ≤ T by grind) a1
        have a4 : x' * (T - v) ≤ x * T - q * v := by grind
        have a5 := div_mono a4 hd
        rw [← e] at a5
        exact a5
    · rw [if_neg hq] at h
      have h := Option.some.inj h
      subst h
      rw [if_neg (show ¬ q < x' by grind)]
      exact ⟨x', rfl, hx⟩
theorem goes_mono {r : Raft} {fs : List Man} {n : Str} {x x' y : Rat} (hr : r.ok) (hm : Men fs) (hx : x' ≤ x) (h : goes r fs x n = some y) : ∃ y', goes r fs x' n = some y' ∧ y' ≤ y := by
  unfold goes at h ⊢
  cases e : manOf fs n with
  | none => rw [e] at h; cases h
  | some m =>
    rw [e] at h
    exact goesM_mono hr hm (manOf_mem e).1 hx h
theorem runO_snoc {r : Raft} : ∀ {o : List Str} {fs : List Man} {x : Rat} {n : Str}, runO r fs x (o ++ [n]) = (runO r fs x o).bind fun y => goes r (stay fs o) y n
  | [], fs, x, n => by
    show (goes r fs x n).bind (fun y => some y) = goes r (stay fs []) x n
    rw [stay_nil]
    cases goes r fs x n <;> rfl
  | a :: o, fs, x, n => by
    show (goes r fs x a).bind _ = ((goes r fs x a).bind _).bind _
    cases goes r fs x a with
    | none => rfl
    | some y =>
      show runO r (stay fs [a]) y (o ++ [n]) = (runO r (stay fs [a]) y o).bind _
      rw [runO_snoc, stay_stay]; rfl
theorem last_of : ∀ {o : List Str}, o ≠ [] → ∃ o' n, o = o' ++ [n]
  | [], h => absurd rfl h
  | [a], _ => ⟨[], a, rfl⟩
  | a :: b :: o, _ => by
    obtain ⟨o', n, e⟩ := last_of (o := b :: o) (by simp)
    exact ⟨a :: o', n, by rw [e]; rfl⟩
/-- whoever can in some order can by the best way -/
theorem bestG_le {r : Raft} {fs : List Man} {x : Rat} (hr : r.ok) (hm : Men fs) : ∀ {k : Nat} {lot o : List Str} {y : Rat}, lot.Nodup → lot.length = k → o.Perm lot → runO r fs x o = some y → ∃ v, bestG r fs x k lot = some v ∧ v ≤ y
  | 0, lot, o, y, _, hl, hp, h => by
    have : lot = [] := List.length_eq_zero_iff.mp hl
    subst this
    have : o = [] := List.Perm.eq_nil hp
    subst this
    exact ⟨x, rfl, by rw [Option.some.inj h]; exact Rat.le_refl⟩
  | k + 1, lot, o, y, hn, hl, hp, h => by
    have ho : o ≠ [] := fun e => by subst e; have := hp.length_eq; simp at this; omega
    obtain ⟨o', n, rfl⟩ := last_of ho
    have hmem : n ∈ lot := hp.mem_iff.mp (by simp)
    have hon : (o' ++ [n]).Nodup := hp.nodup_iff.mpr hn
    have hp' : o'.Perm (lessN lot n) := by
      have h1 : (n :: o').Perm (o' ++ [n]) := (List.perm_append_comm (l₁ := [n]) (l₂ := o'))
      exact List.Perm.cons_inv ((h1.trans hp).trans (lessN_perm hn hmem))
    rw [runO_snoc] at h
    cases e : runO r fs x o' with
    | none => rw [e] at h; cases h
    | some y' =>
      rw [e] at h
      have h : goes r (stay fs o') y' n = some y := h
      obtain ⟨v', g1, g2⟩ := bestG_le hr hm (k := k) (lessN_nd hn) (by have := lessN_len hn hmem; omega) hp' e
      rw [stay_congr (fun z => hp'.mem_iff)] at h
      obtain ⟨v, g3, g4⟩ := goes_mono hr (hm.stay _) g2 h
      have : some v ∈ lot.map fun n => (bestG r fs x k (lessN lot n)).bind fun y => goes r (stay fs (lessN lot n)) y n := List.mem_map.mpr ⟨n, hmem, by rw [g1]; exact g3⟩
      obtain ⟨u, g5, g6⟩ := minL_le this
      exact ⟨u, g5, Rat.le_trans g6 g4⟩
/-- and the best way is one -/
theorem bestG_is {r : Raft} {fs : List Man} {x : Rat} : ∀ {k : Nat} {lot : List Str} {v : Rat}, lot.Nodup → lot.length = k → bestG r fs x k lot = some v → ∃ o, o.Perm lot ∧ runO r fs x o = some v
  | 0, lot, v, _, hl, h => by
    have : lot = [] := List.length_eq_zero_iff.mp hl
    subst this
    exact ⟨[], .refl _, h⟩
  | k + 1, lot, v, hn, hl, h => by
    have h := minL_mem h
    obtain ⟨n, hmem, h⟩ := List.mem_map.mp h
    cases e : bestG r fs x k (lessN lot n) with
    | none => rw [e] at h; cases h
    | some y =>
      rw [e] at h
      obtain ⟨o, h1, h2⟩ := bestG_is (lessN_nd hn) (by have := lessN_len hn hmem; omega) e
      refine ⟨o ++ [n], ?_, ?_⟩
      · exact ((List.perm_append_comm (l₁ := o) (l₂ := [n])).trans (List.Perm.cons n h1)).trans (lessN_perm hn hmem).symm
      · rw [runO_snoc, h2, ← h]
        show goes r (stay fs o) y n = _
        rw [stay_congr (fun z => h1.mem_iff)]; rfl
theorem ordL_mem {r : Raft} : ∀ {k : Nat} {fs : List Man} {x : Rat} {lot o : List Str}, lot.Nodup → lot.length = k → (o ∈ ordL r k fs x lot ↔ o.Perm lot ∧ (runO r fs x o).isSome = true)
  | 0, fs, x, lot, o, _, hl => by
    have : lot = [] := List.length_eq_zero_iff.mp hl
    subst this
    unfold ordL
    rw [List.mem_singleton]
    constructor
    · rintro rfl; exact ⟨.refl _, rfl⟩
    · rintro ⟨h, _⟩; exact List.Perm.eq_nil h
  | k + 1, fs, x, lot, o, hn, hl => by
    unfold ordL
    rw [List.mem_flatMap]
    constructor
    · rintro ⟨n, hmem, h⟩
      cases e : goes r fs x n with
      | none => rw [e] at h; cases h
      | some y =>
        rw [e] at h
        obtain ⟨o', h1, rfl⟩ := List.mem_map.mp h
        obtain ⟨h2, h3⟩ := (ordL_mem (lessN_nd hn) (by have := lessN_len hn hmem; omega)).mp h1
        refine ⟨(List.Perm.cons n h2).trans (lessN_perm hn hmem).symm, ?_⟩
        show ((goes r fs x n).bind _).isSome = true
        rw [e]; exact h3
    · rintro ⟨hp, h⟩
      cases o with
      | nil => have := hp.length_eq; simp at this; omega
      | cons n o =>
        have hmem : n ∈ lot := hp.mem_iff.mp (by simp)
        refine ⟨n, hmem, ?_⟩
        have h : ((goes r fs x n).bind fun y => runO r (stay fs [n]) y o).isSome = true := h
        cases e : goes r fs x n with
        | none => rw [e] at h; cases h
        | some y =>
          rw [e] at h
          refine List.mem_map.mpr ⟨o, (ordL_mem (lessN_nd hn) (by have := lessN_len hn hmem; omega)).mpr ⟨?_, h⟩, rfl⟩
          exact List.Perm.cons_inv (hp.trans (lessN_perm hn hmem))
/-- a lot can by the table just where it can in some order -/
theorem best_ord {r : Raft} {fs : List Man} {x : Rat} {lot : List Str} (hr : r.ok) (hm : Men fs) (hn : lot.Nodup) : (bestG r fs x lot.length lot).isSome = !(ordL r lot.length fs x lot).isEmpty := by
  cases e : bestG r fs x lot.length lot with
  | some v =>
    obtain ⟨o, h1, h2⟩ := bestG_is hn rfl e
    have : o ∈ ordL r lot.length fs x lot := (ordL_mem hn rfl).mpr ⟨h1, by rw [h2]; rfl⟩
    cases q : ordL r lot.length fs x lot with
    | nil => rw [q] at this; cases this
    | cons _ _ => rfl
  | none =>
    cases q : ordL r lot.length fs x lot with
    | nil => rfl
    | cons o os =>
      have : o ∈ ordL r lot.length fs x lot := by rw [q]; simp
      obtain ⟨h1, h2⟩ := (ordL_mem hn rfl).mp this
      cases y : runO r fs x o with
      | none => rw [y] at h2; cases h2
      | some y' =>
        obtain ⟨v, g1, _⟩ := bestG_le hr hm hn rfl h1 y
        rw [e] at g1; cases g1
end Rw
/-! RwR: pairs of numbers for front gaps; all lots. -/
namespace Rw
open PySem PySem.Spec PyProof.Rows L2
abbrev PQ := Int × Int
def pD (g : PQ) : Dt := .tuple [.int g.1, .int g.2]
def poD : Option PQ → Dt
  | none => .none
  | some g => pD g
def vq (g : PQ) : Rat := (g.1 : Rat) / (g.2 : Rat)
structure PqOk (n : Nat) (g : PQ) : Prop where
  pos : 0 < g.2
  s1 : g.1.natAbs < 2 ^ n
  s2 : g.2.natAbs < 2 ^ n
theorem PqOk.mono {n m : Nat} {g : PQ} (h : PqOk n g) (k : n ≤ m) : PqOk m g := ⟨h.pos, pw_up h.s1 k, pw_up h.s2 k⟩
def fglP (r : Raft) (fs : List Man) (g : PQ) (m : Man) : Option PQ :=
  if m.rc * tot r fs * g.2 < g.1 * tot r fs - r.lg * (wt fs - m.hv) * g.2 then none
  else if g.1 ≤ m.rc * g.2 then some g
  else some (g.1 * tot r fs - m.hv * m.rc * g.2, g.2 * (tot r fs - m.hv))
theorem fglP_ok {n : Nat} {r : Raft} {fs : List Man} {g g' : PQ} {m : Man} (hr : r.ok) (hm : Men fs) (hmem : m ∈ fs) (hg : PqOk n g) (h : fglP r fs g m = some g') : PqOk (n + 16) g' := by
  unfold fglP at h
  have ht := tot_bd hr hm
  have hok := hm.2 m hmem
  have hge := wt_ge hm.2 hmem
  have h1 : (1 : Int) ≤ tot r fs - m.hv := by have := hr.2.2.1; unfold tot; omega
  split at h
  · cases h
  · split at h
    · cases h; exact hg.mono (by omega)
    · cases h
      have hv := hok.1
      have hv2 := hok.2.1
      have hc := hok.2.2.1
      have hc2 := hok.2.2.2
      refine ⟨Int.mul_pos hg.pos (by omega), ?_, ?_⟩
      · refine pw_up (pw_sub (n := n + 15) (pw_up (pw_mulI hg.s1 (show (tot r fs).natAbs < 2 ^ 12 by omega)) (by omega)) ?_) (by omega)
        have hvr : (m.hv * m.rc).natAbs < 2 ^ 15 := pw_mulI (n := 8) (m := 7) (by omega) (by omega)
        rw [Nat.add_comm n 15]
        exact pw_mulI hvr hg.s2
      · exact pw_up (pw_mulI hg.s2 (show (tot r fs - m.hv).natAbs < 2 ^ 12 by omega)) (by omega)
theorem rat_le_int {a b : Int} : ((a : Int) : Rat) ≤ (b : Rat) ↔ a ≤ b := Rat.intCast_le_intCast
theorem vq_le {g : PQ} (hg : 0 < g.2) (c : Int) : vq g ≤ (c : Rat) ↔ g.1 ≤ c * g.2 := by
  have hb : (0 : Rat) < (g.2 : Rat) := Rat.intCast_pos.mpr hg
  unfold vq
  rw [← rat_le_int, Rat.intCast_mul]
  generalize (g.1 : Rat) = a at *
  generalize (g.2 : Rat) = b at *
  generalize (c : Rat) = q at *
  constructor
  · intro h
    have := Rat.mul_le_mul_of_nonneg_right h (Rat.le_of_lt hb)
    have e : a / b * b = a := by grind
    rw [e] at this; exact this
  · intro h
    have := div_mono h hb
    have e : q * b / b = q := by grind
    rw [e] at this; exact this
theorem fglP_val {r : Raft} {fs : List Man} {g : PQ} {m : Man} (hr : r.ok) (hm : Men fs) (hmem : m ∈ fs) (hg : 0 < g.2) : (fglP r fs g m).map vq = goesM r fs (vq g) m := by
  have ht := (tot_bd hr hm).1
  have hok := hm.2 m hmem
  have hge := wt_ge hm.2 hmem
  have h1 : (1 : Int) ≤ tot r fs - m.hv := by have := hr.2.2.1; unfold tot; omega
  have hb : (0 : Rat) < (g.2 : Rat) := Rat.intCast_pos.mpr hg
  have hT : (0 : Rat) < (tot r fs : Rat) := rat_pos_of ht
  have hW : (0 : Rat) < ((tot r fs - m.hv : Int) : Rat) := rat_pos_of h1
  have c1 : (m.rc * tot r fs * g.2 < g.1 * tot r fs - r.lg * (wt fs - m.hv) * g.2) ↔ (m.rc : Rat) < vq g - (r.lg : Rat) * ((wt fs - m.hv : Int) : Rat) / (tot r fs : Rat) := by
    rw [← Rat.intCast_lt_intCast, Rat.intCast_mul, Rat.intCast_mul, Rat.intCast_sub, Rat.intCast_mul, Rat.intCast_mul, Rat.intCast_mul]
    unfold vq
    generalize ((wt fs - m.hv : Int) : Rat) = o at *
    generalize (tot r fs : Rat) = T at *
    generalize (g.2 : Rat) = b at *
    generalize (g.1 : Rat) = a at *
    generalize (m.rc : Rat) = q at *
    generalize (r.lg : Rat) = l at *
    have e : a / b - l * o / T = (a * T - l * o * b) / (b * T) := by grind
    have hbT := Rat.mul_pos hb hT
    rw [e]
    constructor
    · intro h
      have e2 : q = (q * T * b) / (b * T) := by grind
      rw [e2]
      generalize q * T * b = u at *
      generalize a * T - l * o * b = w at *
      generalize b * T = z at *
      rw [Rat.div_def, Rat.div_def]
      exact Rat.mul_lt_mul_of_pos_right h (Rat.inv_pos.mpr hbT)
    · intro h
      have := Rat.mul_lt_mul_of_pos_right h hbT
      have e3 : (a * T - l * o * b) / (b * T) * (b * T) = a * T - l * o * b := by grind
      rw [e3] at this
      grind
  unfold fglP goesM
  by_cases hc : m.rc * tot r fs * g.2 < g.1 * tot r fs - r.lg * (wt fs - m.hv) * g.2
  · rw [if_pos hc, if_pos (c1.mp hc)]; rfl
  · rw [if_neg hc, if_neg (fun z => hc (c1.mpr z))]
    by_cases hq : g.1 ≤ m.rc * g.2
    · rw [if_pos hq, if_neg (Rat.not_lt.mpr ((vq_le hg m.rc).mpr hq))]; rfl
    · rw [if_neg hq, if_pos (Rat.not_le.mp fun z => hq ((vq_le hg m.rc).mp z))]
      show some (vq _) = some _
      congr 1
      unfold vq
      simp only
      rw [Rat.intCast_sub (g.1 * tot r fs), Rat.intCast_mul g.1, Rat.intCast_mul (m.hv * m.rc), Rat.intCast_mul m.hv, Rat.intCast_mul g.2]
      generalize ((tot r fs - m.hv : Int) : Rat) = z at *
      generalize (tot r fs : Rat) = T at *
      generalize (g.2 : Rat) = b at *
      generalize (g.1 : Rat) = a at *
      grind
def leP (g a : PQ) : Bool := decide (g.1 * a.2 ≤ a.1 * g.2)
theorem leP_val {g a : PQ} (hg : 0 < g.2) (ha : 0 < a.2) : leP g a = decide (vq g ≤ vq a) := by
  unfold leP vq
  rw [decide_eq_decide]
  have h1 : (0 : Rat) < (g.2 : Rat) := Rat.intCast_pos.mpr hg
  have h2 : (0 : Rat) < (a.2 : Rat) := Rat.intCast_pos.mpr ha
  have h3 := Rat.mul_pos h1 h2
  rw [← rat_le_int, Rat.intCast_mul, Rat.intCast_mul]
  generalize (g.1 : Rat) = p at *
  generalize (g.2 : Rat) = q at *
  generalize (a.1 : Rat) = u at *
  generalize (a.2 : Rat) = w at *
  constructor
  · intro h
    have := div_mono h h3
    have e1 : p * w / (q * w) = p / q := by grind
    have e2 : u * q / (q * w) = u / w := by grind
    rw [e1, e2] at this; exact this
  · intro h
    have := Rat.mul_le_mul_of_nonneg_right h (Rat.le_of_lt h3)
    have e1 : p / q * (q * w) = p * w := by grind
    have e2 : u / w * (q * w) = u * q := by grind
    rw [e1, e2] at this; exact this
def minP : Option PQ → Option PQ → Option PQ
  | acc, none => acc
  | none, some g => some g
  | some a, some g => if leP g a then some g else some a
/-- one way more for a lot -/
def wayP (r : Raft) (fs : List Man) (lot : List Str) (F : List Str → Option PQ) (n : Str) : Option PQ := (F (lessN lot n)).bind fun g => (manOf (stay fs (lessN lot n)) n).bind fun m => fglP r (stay fs (lessN lot n)) g m
def ggP (r : Raft) (fs : List Man) (lot : List Str) (F : List Str → Option PQ) : Option PQ := (lot.map (wayP r fs lot F)).foldl minP none
def FP (r : Raft) (fs : List Man) (g0 : PQ) : Nat → List Str → Option PQ
  | 0, _ => some g0
  | k + 1, lot => ggP r fs lot (FP r fs g0 k)
theorem way_ok {n : Nat} {r : Raft} {fs : List Man} {lot : List Str} {F : List Str → Option PQ} {x : Str} {g : PQ} (hr : r.ok) (hm : Men fs) (hF : ∀ g, F (lessN lot x) = some g → PqOk n g) (h : wayP r fs lot F x = some g) : PqOk (n + 16) g := by
  unfold wayP at h
  cases e : F (lessN lot x) with
  | none => rw [e] at h; cases h
  | some g1 =>
    rw [e] at h
    cases e2 : manOf (stay fs (lessN lot x)) x with
    | none => rw [Option.bind_some, e2] at h; cases h
    | some m =>
      rw [Option.bind_some, e2] at h
      exact fglP_ok hr (hm.stay _) (manOf_mem e2).1 (hF g1 e) h
theorem way_val {r : Raft} {fs : List Man} {lot : List Str} {F : List Str → Option PQ} {V : List Str → Option Rat} {x : Str} (hr : r.ok) (hm : Men fs) (hF : ∀ g, F (lessN lot x) = some g → 0 < g.2) (hV : (F (lessN lot x)).map vq = V (lessN lot x)) :
    (wayP r fs lot F x).map vq = (V (lessN lot x)).bind fun y => goes r (stay fs (lessN lot x)) y x := by
  unfold wayP goes
  rw [← hV]
  cases e : F (lessN lot x) with
  | none => rfl
  | some g1 =>
    rw [Option.bind_some, Option.map_some, Option.bind_some]
    cases e2 : manOf (stay fs (lessN lot x)) x with
    | none => rfl
    | some m => exact fglP_val hr (hm.stay _) (manOf_mem e2).1 (hF g1 e)
theorem foldP_ok {n : Nat} : ∀ {l : List (Option PQ)} {a : Option PQ} {g : PQ}, (∀ x ∈ l, ∀ g, x = some g → PqOk n g) → (∀ g, a = some g → PqOk n g) → l.foldl minP a = some g → PqOk n g
  | [], a, g, _, ha, h => ha g h
  | b :: l, a, g, hl, ha, h => by
    rw [List.foldl_cons] at h
    refine foldP_ok (fun x hx => hl x (List.mem_cons_of_mem _ hx)) (fun g' e => ?_) h
    cases b with
    | none => exact ha g' (by cases a <;> exact e)
    | some b =>
      cases a with
      | none => exact hl _ List.mem_cons_self g' e
      | some a =>
        have e : (if leP b a then some b else some a) = some g' := e
        split at e
        · exact hl _ List.mem_cons_self g' e
        · exact ha g' e
theorem minP_val {a b : Option PQ} (ha : ∀ g, a = some g → 0 < g.2) (hb : ∀ g, b = some g → 0 < g.2) : (minP a b).map vq = minO (a.map vq) (b.map vq) := by
  cases b with
  | none => cases a <;> rfl
  | some b =>
    cases a with
    | none => rfl
    | some a =>
      show Option.map vq (if leP b a then some b else some a) = some (if vq b ≤ vq a then vq b else vq a)
      rw [leP_val (hb b rfl) (ha a rfl)]
      by_cases h : vq b ≤ vq a
      · rw [if_pos (decide_eq_true h), if_pos h]; rfl
      · rw [if_neg (by rw [decide_eq_false h]; decide), if_neg h]; rfl
theorem minP_pos {a b : Option PQ} (ha : ∀ g, a = some g → 0 < g.2) (hb : ∀ g, b = some g → 0 < g.2) : ∀ g, minP a b = some g → 0 < g.2 := fun g e => by
  cases b with
  | none => exact ha g (by cases a <;> exact e)
  | some b =>
    cases a with
    | none => exact hb g e
    | some a =>
      have e : (if leP b a then some b else some a) = some g := e
      split at e
      · exact hb g e
      · exact ha g e
theorem foldP_val : ∀ {l : List (Option PQ)} {a : Option PQ}, (∀ x ∈ l, ∀ g, x = some g → 0 < g.2) → (∀ g, a = some g → 0 < g.2) → (l.foldl minP a).map vq = (l.map fun x => x.map vq).foldl minO (a.map vq)
  | [], a, _, _ => rfl
  | b :: l, a, hl, ha => by
    have hb := hl b List.mem_cons_self
    rw [List.foldl_cons, List.map_cons, List.foldl_cons, foldP_val (fun x hx => hl x (List.mem_cons_of_mem _ hx)) (minP_pos ha hb), minP_val ha hb]
theorem FP_ok {r : Raft} {fs : List Man} {g0 : PQ} {n : Nat} (hr : r.ok) (hm : Men fs) (h0 : PqOk n g0) : ∀ {k : Nat} {lot : List Str} {g : PQ}, FP r fs g0 k lot = some g → PqOk (n + 16 * k) g
  | 0, lot, g, h => by cases h; exact h0
  | k + 1, lot, g, h => by
    refine foldP_ok (n := n + 16 * (k + 1)) (fun x hx g e => ?_) (fun g e => by cases e) h
    obtain ⟨nm, _, rfl⟩ := List.mem_map.mp hx
    exact (way_ok hr hm (fun g' e' => FP_ok hr hm h0 e') e).mono (by omega)
theorem FP_val {r : Raft} {fs : List Man} {g0 : PQ} {n : Nat} (hr : r.ok) (hm : Men fs) (h0 : PqOk n g0) : ∀ (k : Nat) (lot : List Str), (FP r fs g0 k lot).map vq = bestG r fs (vq g0) k lot
  | 0, lot => rfl
  | k + 1, lot => by
    show ((lot.map (wayP r fs lot (FP r fs g0 k))).foldl minP none).map vq = minL _
    rw [foldP_val (fun x hx g e => ?_) (fun g e => by cases e)]
    · unfold minL
      rw [List.map_map]
      congr 1
      refine List.map_congr_left fun nm _ => ?_
      exact way_val (V := bestG r fs (vq g0) k) hr hm (fun g e => (FP_ok hr hm h0 e).pos) (FP_val hr hm h0 k _)
    · obtain ⟨nm, _, rfl⟩ := List.mem_map.mp hx
      exact (way_ok hr hm (fun g' e' => FP_ok hr hm h0 e') e).pos
/-! ### all lots -/
def subL (ns : List Str) : List (List Str) := ns.foldl (fun acc n => acc ++ acc.map (· ++ [n])) [[]]
theorem subL_snoc (ns : List Str) (n : Str) : subL (ns ++ [n]) = subL ns ++ (subL ns).map (· ++ [n]) := by unfold subL; rw [List.foldl_append]; rfl
theorem subL_len (ns : List Str) : (subL ns).length = 2 ^ ns.length := by
  have : ∀ l : List Str, (subL l.reverse).length = 2 ^ l.length := by
    intro l
    induction l with
    | nil => rfl
    | cons x l ih => rw [List.reverse_cons, subL_snoc, List.length_append, List.length_map, ih, List.length_cons, Nat.pow_succ]; omega
  have h := this ns.reverse
  rwa [List.reverse_reverse, List.length_reverse] at h
theorem snoc_ind {p : List Str → Prop} (h0 : p []) (h1 : ∀ l n, p l → p (l ++ [n])) (l : List Str) : p l := by
  have : ∀ l : List Str, p l.reverse := by
    intro l
    induction l with
    | nil => exact h0
    | cons x l ih => rw [List.reverse_cons]; exact h1 _ _ ih
  have h := this l.reverse
  rwa [List.reverse_reverse] at h
theorem subL_mem (ns : List Str) : ∀ l, l ∈ subL ns ↔ l.Sublist ns := by
  refine snoc_ind (p := fun ns => ∀ l, l ∈ subL ns ↔ l.Sublist ns) ?_ (fun ns n ih l => ?_) ns
  · intro l
    show l ∈ [[]] ↔ _
    rw [List.mem_singleton, List.sublist_nil]
  · rw [subL_snoc, List.mem_append, ih, List.mem_map]
    constructor
    · rintro (h | ⟨l', h, rfl⟩)
      · exact h.trans (List.sublist_append_left _ _)
      · exact List.Sublist.append ((ih l').mp h) (List.Sublist.refl _)
    · intro h
      obtain ⟨l1, l2, rfl, h1, h2⟩ := List.sublist_append_iff.mp h
      cases h2 with
      | cons _ h2 =>
        have : l2 = [] := List.sublist_nil.mp h2
        subst this
        exact .inl (by rw [List.append_nil]; exact h1)
      | cons_cons _ h2 =>
        have := List.sublist_nil.mp h2
        subst this
        exact .inr ⟨l1, (ih l1).mpr h1, rfl⟩
theorem subL_nd (ns : List Str) : ns.Nodup → (subL ns).Nodup := by
  refine snoc_ind (p := fun ns => ns.Nodup → (subL ns).Nodup) (fun _ => ?_) (fun ns n ih hn => ?_) ns
  · show [([] : List Str)].Nodup
    simp
  · rw [List.nodup_append] at hn
    rw [subL_snoc, List.nodup_append]
    refine ⟨ih hn.1, ?_, fun a ha b hb e => ?_⟩
    · exact List.pairwise_map.mpr ((ih hn.1).imp fun {a b} h e => h (List.append_inj_left' e rfl))
    · obtain ⟨l', h, rfl⟩ := List.mem_map.mp hb
      subst e
      have := ((subL_mem ns _).mp ha).subset (show n ∈ l' ++ [n] by simp)
      exact hn.2.2 n this n (by simp) rfl
theorem subL_head (ns : List Str) : (subL ns).head? = some [] := by
  refine snoc_ind (p := fun ns => (subL ns).head? = some []) rfl (fun ns n ih => ?_) ns
  rw [subL_snoc, List.head?_append, ih]; rfl
def nms (fs : List Man) : List Str := fs.map (·.nm)
def lotsL (fs : List Man) : List (List Str) := (subL (nms fs)).mergeSort leS
theorem lotsL_mem {fs : List Man} {l : List Str} : l ∈ lotsL fs ↔ l.Sublist (nms fs) := by unfold lotsL; rw [List.mem_mergeSort]; exact subL_mem _ _
theorem lotsL_nd {fs : List Man} (h : (nms fs).Nodup) : (lotsL fs).Nodup := (List.mergeSort_perm _ _).nodup_iff.mpr (subL_nd _ h)
theorem lotsL_len (fs : List Man) : (lotsL fs).length = 2 ^ fs.length := by unfold lotsL; rw [List.length_mergeSort, subL_len, nms, List.length_map]
def sizeL (fs : List Man) : List (List Str) := (lotsL fs).mergeSort leN
theorem sizeL_mem {fs : List Man} {l : List Str} : l ∈ sizeL fs ↔ l.Sublist (nms fs) := by unfold sizeL; rw [List.mem_mergeSort]; exact lotsL_mem
theorem sizeL_nd {fs : List Man} (h : (nms fs).Nodup) : (sizeL fs).Nodup := (List.mergeSort_perm _ _).nodup_iff.mpr (lotsL_nd h)
theorem sizeL_len (fs : List Man) : (sizeL fs).length = 2 ^ fs.length := by unfold sizeL; rw [List.length_mergeSort]; exact lotsL_len fs
theorem sizeL_pw (fs : List Man) : (sizeL fs).Pairwise fun a b => a.length ≤ b.length := by
  refine (List.pairwise_mergeSort (le := leN) (fun a b c h h' => ?_) (fun a b => ?_) _).imp fun {a b} h => of_decide_eq_true h
  · exact decide_eq_true (Nat.le_trans (of_decide_eq_true h) (of_decide_eq_true h'))
  · unfold leN
    rw [Bool.or_eq_true, decide_eq_true_eq, decide_eq_true_eq]
    exact Nat.le_total _ _
theorem sizeL_head (fs : List Man) : ∃ t, sizeL fs = [] :: t := by
  cases e : sizeL fs with
  | nil => have := sizeL_len fs; rw [e] at this; have h2 := Nat.two_pow_pos fs.length; rw [List.length_nil] at this; omega
  | cons a t =>
    have h0 : [] ∈ sizeL fs := sizeL_mem.mpr (List.nil_sublist _)
    have hp := sizeL_pw fs
    rw [e] at h0 hp
    rcases List.mem_cons.mp h0 with h | h
    · exact ⟨t, by rw [← h]⟩
    · have := (List.pairwise_cons.mp hp).1 [] h
      have : a = [] := List.length_eq_zero_iff.mp (by simpa using this)
      exact ⟨t, by rw [this]⟩
/-- what a lot leans on stands before it -/
theorem sizeL_before {fs : List Man} {i : Nat} {lot : List Str} {n : Str} (hnd : (nms fs).Nodup) (h : (sizeL fs)[i]? = some lot) (hm : n ∈ lot) : lessN lot n ∈ (sizeL fs).take i := by
  have hs : lot.Sublist (nms fs) := sizeL_mem.mp (List.mem_of_getElem? h)
  have hl : (lessN lot n).Sublist (nms fs) := List.filter_sublist.trans hs
  obtain ⟨j, hj⟩ := List.getElem?_of_mem (sizeL_mem.mpr hl)
  have hlen := lessN_len (hs.nodup hnd) hm
  have hji : j < i := by
    rcases Nat.lt_or_ge j i with q | q
    · exact q
    · exfalso
      rcases Nat.lt_or_ge i j with q2 | q2
      · have hi' := lt_get h
        have hj' := lt_get hj
        have := List.pairwise_iff_getElem.mp (sizeL_pw fs) i j hi' hj' q2
        rw [List.getElem?_eq_getElem hi'] at h
        rw [List.getElem?_eq_getElem hj'] at hj
        rw [Option.some.inj h, Option.some.inj hj] at this
        omega
      · have : i = j := by omega
        subst this
        rw [h] at hj
        have := congrArg List.length (Option.some.inj hj)
        omega
  exact List.mem_of_getElem? (i := j) (by rw [List.getElem?_take_of_lt hji]; exact hj)
/-- the table by lots -/
def tabK (r : Raft) (fs : List Man) (g0 : PQ) (ls : List (List Str)) : List (List Str × Dt) := ls.map fun lot => (lot, poD (FP r fs g0 lot.length lot))
theorem atD_map {f : List Str → Dt} : ∀ {ls : List (List Str)} {k : List Str}, k ∈ ls → atD (ls.map fun l => (l, f l)) k = some (f k)
  | a :: ls, k, h => by
    by_cases e : a = k
    · subst e; simp [atD]
    · have hk : k ∈ ls := (List.mem_cons.mp h).resolve_left fun z => e z.symm
      have := atD_map (f := f) hk
      simp only [atD] at this ⊢
      rw [List.map_cons, List.find?_cons]
      simp only [decide_eq_false e]
      exact this
theorem atD_none {f : List Str → Dt} : ∀ {ls : List (List Str)} {k : List Str}, k ∉ ls → atD (ls.map fun l => (l, f l)) k = none
  | [], k, _ => rfl
  | a :: ls, k, h => by
    have e : a ≠ k := fun z => h (by rw [z]; exact List.mem_cons_self)
    have := atD_none (f := f) (ls := ls) (k := k) fun z => h (List.mem_cons_of_mem _ z)
    simp only [atD] at this ⊢
    rw [List.map_cons, List.find?_cons]
    simp only [decide_eq_false e]
    exact this
theorem putD_new {kvs : List (List Str × Dt)} {k : List Str} {d : Dt} (h : atD kvs k = none) : putD kvs k d = kvs ++ [(k, d)] := by unfold putD; rw [h]; rfl
end Rw
/-! RwI: texts in tuples of texts; x += y. -/
namespace Rw
open PySem PySem.Spec PyProof.Rows L2
theorem inV_strs (x : Str) : ∀ l : List Str, inV (.str x) (l.map V.str) = decide (x ∈ l)
  | [] => by simp [inV]
  | y :: l => by
    have ih := inV_strs x l
    unfold inV at ih ⊢
    rw [List.map_cons, List.any_cons, ih]
    by_cases h : y = x
    · subst h; simp [eqV]
    · have h2 : ¬ x = y := fun z => h z.symm
      simp [eqV, h, h2]
section
variable {X : Cx} {env : LE} {μ μ1 μ2 : MU} {x y : DE} {a b c e : Expr} {p pos : Pos} {i j : Int}
theorem c_ninT {t : Str} {l : List Str} : CmpD X .NotIn (.d (.str t)) (.d (.tuple (l.map .str))) μ (!decide (t ∈ l)) := ⟨_, op_notIn_seq, fun G H A v w S r1 r2 Q q => by
  obtain ⟨pp, xs, rfl, tt, dd⟩ := r2.tup S
  have e := dpa_strs dd
  subst e
  refine ⟨pp, _, rfl, .inr tt, by rw [r1.str]; rfl, by rw [List.all_eq_true]; intro z hz; obtain ⟨u, _, rfl⟩ := List.mem_map.mp hz; rfl, ?_⟩
  rw [r1.str, if_pos rfl, inV_strs]
  exact q.now S (.d (.bl _))⟩
theorem c_inT {t : Str} {l : List Str} : CmpD X .In (.d (.str t)) (.d (.tuple (l.map .str))) μ (decide (t ∈ l)) := ⟨_, op_in_seq, fun G H A v w S r1 r2 Q q => by
  obtain ⟨pp, xs, rfl, tt, dd⟩ := r2.tup S
  have e := dpa_strs dd
  subst e
  refine ⟨pp, _, rfl, .inr tt, by rw [r1.str]; rfl, by rw [List.all_eq_true]; intro z hz; obtain ⟨u, _, rfl⟩ := List.mem_map.mp hz; rfl, ?_⟩
  rw [r1.str, if_neg (by decide), inV_strs]
  exact q.now S (.d (.bl _))⟩
end
theorem units16 {k : Nat} {A : Around} (r : Room k A) : A.units + 16 < cLine := by have := r.un; omega
theorem units1 {k : Nat} {A : Around} (r : Room k A) : A.units + 1 < cLine := by have := r.un; omega
theorem drop_less : ∀ {l : List Str} {j : Nat} {n : Str}, l.Nodup → l[j]? = some n → dropAt l j = lessN l n
  | x :: l, 0, n, hn, h => by
    have h := Option.some.inj h
    subst h
    rw [drop_z]
    unfold lessN
    rw [List.filter_cons]
    simp only [decide_true, Bool.not_true]
    rw [if_neg (by decide)]
    refine (List.filter_eq_self.mpr fun y hy => ?_).symm
    have : y ≠ x := fun e => (List.nodup_cons.mp hn).1 (e ▸ hy)
    simp [this]
  | x :: l, j + 1, n, hn, h => by
    have h : l[j]? = some n := h
    rw [drop_s, drop_less (List.nodup_cons.mp hn).2 h]
    unfold lessN
    rw [List.filter_cons, if_pos]
    have : x ≠ n := fun e => (List.nodup_cons.mp hn).1 (e ▸ List.mem_of_getElem? h)
    simp [this]
  | [], j, n, _, h => by simp at h
theorem encK_drop (l : List Str) (j : Nat) : PyData.tuple (dropAt (l.map .str) j) = encK (dropAt l j) := by unfold encK; rw [dropAt_map]
end Rw
namespace Rw
open PySem PySem.Spec PyProof.Rows L2
def gp (x : Rat) : PQ := (x.num, (x.den : Int))
theorem gpq {n : Nat} {x : Rat} (h : Sz n x) : PqOk n (gp x) := ⟨dn_pos x, h.1, h.dn⟩
theorem gp_val (x : Rat) : vq (gp x) = x := by
  unfold vq gp
  conv => rhs; rw [rat_parts x]
  rfl
theorem tabK_len (r : Raft) (fs : List Man) (g : PQ) (ls : List (List Str)) : (tabK r fs g ls).length = ls.length := List.length_map ..
theorem tab_put {r : Raft} {fs : List Man} {g : PQ} {ls : List (List Str)} {lot : List Str} {d : Dt} (h : lot ∉ ls) : putD (tabK r fs g ls) lot d = tabK r fs g ls ++ [(lot, d)] := putD_new (atD_none (f := fun l => poD (FP r fs g l.length l)) h)
theorem pow7 {n : Nat} (h : n ≤ 7) : 2 ^ n ≤ 128 := by
  calc 2 ^ n ≤ 2 ^ 7 := Nat.pow_le_pow_right (by omega) h
    _ = 128 := rfl
/-- whose front gaps a table tells -/
structure TabA where
  r : Raft
  fs : List Man
  g : Rat
  ps : List Rat
structure TabO (t : TabA) : Prop where
  gd : Good t.r t.fs t.ps
  gs : Sz 350 t.g
  nd : (nms t.fs).Nodup
  nm : NmOk t.fs
  fz : Sz 1500 (front t.r t.fs t.g t.ps)
def TabA.x (t : TabA) : Rat := front t.r t.fs t.g t.ps
def TabA.args (t : TabA) : List DE := [.d (raftD t.r), .d (folkD t.fs), .d (stD t.g t.ps)]
def TabA.kvs (t : TabA) : List (List Str × Dt) := tabK t.r t.fs (gp t.x) (sizeL t.fs)
theorem TabO.best {t : TabA} (h : TabO t) (lot : List Str) : (FP t.r t.fs (gp t.x) lot.length lot).map vq = bestG t.r t.fs t.x lot.length lot := by
  have := FP_val h.gd.rf h.gd.mn (gpq h.fz) lot.length lot
  rw [gp_val] at this; exact this
theorem TabO.at_ {t : TabA} (h : TabO t) {lot : List Str} (hl : lot.Sublist (nms t.fs)) : atD t.kvs lot = some (poD (FP t.r t.fs (gp t.x) lot.length lot)) := atD_map (f := fun l => poD (FP t.r t.fs (gp t.x) l.length l)) (sizeL_mem.mpr hl)
end Rw
namespace Rw
open PySem PySem.Spec PyProof.Rows L2
theorem et_tru {X : Cx} {env : LE} {μ μ1 : MU} {a : Expr} {ds : List Dt} (h : Ev X a env μ μ1 (.d (.tuple ds))) (he : ∀ whole, isTrue a X.env whole = (do let v ← whole; standAt a.pos; holding [v] (truthy v)) := by intro _; rfl) : EvT X a env μ μ1 (!ds.isEmpty) := .mk fun σ G H A E S Q q pins s I =>
  (pt_truth pu he).run pins s σ H Q I (h.run σ G H A E S _ fun v G1 H1 A1 e1 p1 S1 r1 => by
    obtain ⟨p, xs, rfl, t, dd⟩ := r1.tup S1
    refine ⟨_, .inr (.inl ⟨xs, t, rfl⟩), ?_⟩
    have : (!xs.isEmpty) = !ds.isEmpty := by cases dd <;> rfl
    rw [this]
    exact q G1 H1 A1 e1 p1 S1)
/-- the orders told -/
def hdD (os : List (List Str)) : Dt := match os.head? with
  | none => .none
  | some o => encK o
def ordD (os : List (List Str)) : Dt := .tuple [.int (os.length : Int), hdD os]
def ordStep (r : Raft) (k : Nat) (fs : List Man) (x : Rat) (lot : List Str) (n : Str) : List (List Str) := match goes r fs x n with
  | none => []
  | some y => (ordL r k (stay fs [n]) y (lessN lot n)).map (n :: ·)
theorem ordL_succ (r : Raft) (k : Nat) (fs : List Man) (x : Rat) (lot : List Str) : ordL r (k + 1) fs x lot = lot.flatMap (ordStep r k fs x lot) := rfl
theorem flat_take {α β : Type} (f : α → List β) {l : List α} {i : Nat} {a : α} (h : l[i]? = some a) : (l.take (i + 1)).flatMap f = (l.take i).flatMap f ++ f a := by
  rw [List.take_add_one, h, List.flatMap_append]; simp
theorem hdD_app (a b : List (List Str)) : hdD (a ++ b) = if isNon (.d (hdD a)) then hdD b else hdD a := by
  cases a with
  | nil => rfl
  | cons o a => rfl
theorem hdD_non (a : List (List Str)) : isNon (.d (hdD a)) = a.isEmpty := by cases a <;> rfl
end Rw
/-! RwC: the greatest of some; the first of the longest; names that rise. -/
namespace Rw
open PySem PySem.Spec PyProof.Rows L2
theorem rc_maxI {X : Cx} {μ : MU} {x : DE} {ns : List Int} {m : Int} (h : Dv μ x (.list (ns.map .int))) (hm : m ∈ ns) (hb : ∀ y ∈ ns, y ≤ m) : RC X.K (rMax X.K) [x] μ μ (.d (.int m)) := fun G H A vs S r Q q => by
  obtain ⟨v, rfl, r1⟩ := Rp.one r
  obtain ⟨p, xs, rfl, t, dd⟩ := r1.lst S h
  refine ⟨p, ns, rfl, by rw [← dpa_ints dd]; exact t, List.length_pos_of_mem hm, fun m' h1 h2 => ?_⟩
  have : m' = m := Int.le_antisymm (hb m' h1) (h2 m hm)
  subst this
  exact q.now S (.d (.int _))
theorem argBest_first (num : Nat → Int) : ∀ k j, j < argBest (fun i j => decide (num i > num j)) k → num j < num (argBest (fun i j => decide (num i > num j)) k)
  | 0, j, h => by simp [argBest] at h
  | k + 1, j, h => by
    have ih := argBest_first num k j
    obtain ⟨h1, h2⟩ := argBest_gt num k
    simp only [argBest] at h ⊢
    by_cases hc : num (k + 1) > num (argBest (fun i j => decide (num i > num j)) k)
    · rw [if_pos (by simpa using hc)] at h ⊢
      have := h2 j (by omega)
      omega
    · rw [if_neg (by simpa using hc)] at h ⊢
      exact ih h
theorem bestI_lt {ks : List (List Str)} (h : 0 < ks.length) : bestI ks < ks.length := by
  have := (argBest_gt (fun i => ((ks.getD i []).length : Int)) (ks.length - 1)).1
  unfold bestI; omega
theorem bestK_at {ks : List (List Str)} (h : 0 < ks.length) : ks[bestI ks]? = some (bestK ks) := by
  have := bestI_lt h
  unfold bestK
  rw [List.getD_eq_getElem?_getD, List.getElem?_eq_getElem this]; rfl
theorem getD_at {ks : List (List Str)} {i : Nat} {k : List Str} (h : ks[i]? = some k) : ks.getD i [] = k := by rw [List.getD_eq_getElem?_getD, h]; rfl
theorem bestK_ge {ks : List (List Str)} {k : List Str} (h : k ∈ ks) : k.length ≤ (bestK ks).length := by
  obtain ⟨i, hi⟩ := List.getElem?_of_mem h
  have hl := lt_get hi
  have := (argBest_gt (fun i => ((ks.getD i []).length : Int)) (ks.length - 1)).2 i (by omega)
  simp only [getD_at hi] at this
  unfold bestK bestI
  omega
theorem bestK_before {ks : List (List Str)} {i : Nat} {k : List Str} (hi : ks[i]? = some k) (h : i < bestI ks) : k.length < (bestK ks).length := by
  have := argBest_first (fun i => ((ks.getD i []).length : Int)) (ks.length - 1) i h
  simp only [getD_at hi] at this
  unfold bestK bestI
  omega
theorem filt_head {α : Type} {p : α → Bool} : ∀ {l : List α} {i : Nat} {a : α}, l[i]? = some a → p a = true → (∀ j b, j < i → l[j]? = some b → p b = false) → (l.filter p)[0]? = some a
  | x :: l, 0, a, h, hp, _ => by
    have h := Option.some.inj h
    subst h
    rw [List.filter_cons, if_pos hp]; rfl
  | x :: l, i + 1, a, h, hp, hq => by
    have h0 := hq 0 x (by omega) rfl
    rw [List.filter_cons, if_neg (by rw [h0]; decide)]
    exact filt_head (i := i) h hp fun j b hj hb => hq (j + 1) b (by omega) hb
  | [], _, _, h, _, _ => by simp at h
theorem bestK_head {ks : List (List Str)} (h : 0 < ks.length) : (ks.filter fun k => decide (k.length = (bestK ks).length))[0]? = some (bestK ks) :=
  filt_head (bestK_at h) (decide_eq_true rfl) fun j b hj hb => decide_eq_false (Nat.ne_of_lt (bestK_before hb hj))
/-- names in their order -/
def Rise (l : List Str) : Prop := l.Pairwise fun a b => a.cps.toList ≤ b.cps.toList
instance (l : List Str) : Decidable (Rise l) := by unfold Rise; infer_instance
theorem names_rise : Rise allNames := by decide +kernel
theorem folk_rise (n : Int) (s : Bag) : Rise ((folkV n s).map (·.nm)) := by
  unfold folkV
  rw [menR_nm]
  exact names_rise.sublist (List.take_sublist _ _)
theorem rise_sort {l : List Str} (h : Rise l) : sortT l = l := (sortT_uniq (.refl _) h).symm
end Rw
/-! Rw8: how many ints differ; range(a, b); alike reaches. -/
namespace Rw
open PySem PySem.Spec PyProof.Rows L2
/-- each int once, as met -/
def dedI (ns : List Int) : List Int := PyProof.Rows.firstMet (fun i => ns.getD i 0) ns.length
def tLsu (K : PySem.W.Frag) (ta : TE) : TE := fun σ H Q => ta σ H fun x H1 => ∃ (l : Addr) (ns : List Int), x = V.ref l ∧ SqL K H1 l (ns.map V.int) ∧ ns.length ≤ 1000 ∧ Q (.int ((dedI ns).length : Nat)) H1
theorem pe_lsu {X : Cx} {a : Expr} {ta : TE} {p p2 q pos : Pos} (hc : X.calm = true) (hg : Gl X "len") (hm : X.mg "len" = none) (hg2 : Gl X "set") (hm2 : X.mg "set" = none) (ha : PE X a ta)
    (na : starEach [a] X.env = (false, eval a X.env) :: starEach [] X.env := by rfl) : PE X (.Call (.Name "len" p) [.Call (.Name "set" p2) [a] [] q] [] pos) (tLsu X.K ta) := by
  refine ⟨fun pins s σ H Q I h => Call_ (ld_blt I hg hm PySem.boot_len ?_)⟩
  refine PyProof.Rows.callWith_builtin1 (PyProof.Rows.args_cons (Call_ (ld_blt I hg2 hm2 PyProof.Rows.boot_set ?_)) rfl) rfl rfl
  refine PyProof.Rows.callWith_type1 (PyProof.Rows.args_cons (thn (ha.run pins s σ H _ I h) fun v s1 ⟨x, H1, I1, r1, l, ns, ex, hq, hl, q1⟩ => PyProof.Rows.args_nil ?_) na) na rfl
  subst ex
  cases r1
  obtain ⟨its, r, pl, hz⟩ := I1.list hq
  have hsz : its.toArray.size = ns.length := by rw [List.size_toArray, ← r.length, List.length_map]
  have hdl : (dedI ns).length ≤ ns.length := PyProof.Rows.firstMet_length_le _ _
  refine call_set_list (I1.ok.hd hc) pl.isList (by simpa using RZ.intsAre_vals r) (by rw [hsz]; unfold scanBound; omega) fun h' tk hS hk => PyProof.Rows.args_nil ?_
  rw [hsz] at hS
  obtain ⟨o, es, ep, t, ho, hex, hd, _, _, _, hf, hn⟩ := hS
  have I2 : Inv X pins σ H1 { s1 with heap := h', toks := tk } := I1.kept fun b o e => hk b o (Heap.lt_size e) e
  have hn : es.size = (dedI ns).length := hn
  exact call_len_set ho hex hd hf (by rw [hn] <;> omega) ⟨.int (dedI ns).length, H1, I2.tok _, ⟨_, by rw [hn]⟩, q1⟩
theorem ev_lsu {X : Cx} {env : LE} {μ μ1 : MU} {a : Expr} {x : DE} {ns : List Int} {p p2 q pos : Pos} (ha : Ev X a env μ μ1 x) (hx : Dv μ1 x (.list (ns.map .int))) (hl : ns.length ≤ 1000) (hc : X.calm = true) (hg : Gl X "len") (hm : X.mg "len" = none) (hg2 : Gl X "set") (hm2 : X.mg "set" = none)
    (na : starEach [a] X.env = (false, eval a X.env) :: starEach [] X.env := by rfl) : Ev X (.Call (.Name "len" p) [.Call (.Name "set" p2) [a] [] q] [] pos) env μ μ1 (.d (.int ((dedI ns).length : Int))) := .mk fun σ G H A E S Q qq pins s I =>
  (pe_lsu hc hg hm hg2 hm2 pu na).run pins s σ H Q I (ha.run σ G H A E S _ fun v G1 H1 A1 e1 m1 S1 r1 => by
    obtain ⟨l, vs, rfl, t, dd⟩ := Rp.lst S1 r1 hx
    rw [dpa_ints dd] at t
    exact ⟨l, ns, rfl, t, hl, (qq.mono e1 m1).now S1 (.d (.int _))⟩)
theorem met_all {val : Nat → Int} {c : Int} : ∀ {i : Nat}, (∀ j, j < i → val j = c) → PyProof.Rows.firstMet val i = if i = 0 then [] else [c]
  | 0, _ => rfl
  | i + 1, h => by
    rw [PyProof.Rows.firstMet_succ, met_all fun j hj => h j (by omega), h i (by omega), if_neg (show ¬ i + 1 = 0 by omega)]
    by_cases e : i = 0
    · rw [if_pos e]; rfl
    · rw [if_neg e]
      show (if [c].any (· == c) then [c] else [c] ++ [c]) = [c]
      rw [if_pos (by simp)]
theorem ded_alike {ns : List Int} {c : Int} (h0 : 0 < ns.length) (h : ∀ n ∈ ns, n = c) : dedI ns = [c] := by
  unfold dedI
  rw [met_all (c := c) fun j hj => h _ (by rw [List.getD_eq_getElem?_getD, List.getElem?_eq_getElem hj]; exact List.getElem_mem hj), if_neg (by omega)]
theorem ded_any (ns : List Int) {k : Int} (h : k ∈ ns) : k ∈ dedI ns := by
  have := PyProof.Rows.firstMet_any (fun i => ns.getD i 0) ns.length k
  have h2 : ((List.range ns.length).map fun i => ns.getD i 0).any (· == k) = true := by
    rw [List.any_eq_true]
    obtain ⟨i, hi⟩ := List.getElem?_of_mem h
    exact ⟨k, List.mem_map.mpr ⟨i, List.mem_range.mpr (lt_get hi), by rw [List.getD_eq_getElem?_getD, hi]; rfl⟩, by simp⟩
  rw [h2, List.any_eq_true] at this
  obtain ⟨y, hy, e⟩ := this
  have e := eq_of_beq e
  subst e
  exact hy
theorem ded_two {ns : List Int} {a b : Int} (ha : a ∈ ns) (hb : b ∈ ns) (h : a ≠ b) : (dedI ns).length ≠ 1 := fun e => by
  obtain ⟨c, hc⟩ := List.length_eq_one_iff.mp e
  have h1 := ded_any ns ha
  have h2 := ded_any ns hb
  rw [hc, List.mem_singleton] at h1 h2
  exact h (h1.trans h2.symm)
/-- range(a, b) -/
def fromTo (a : Int) (n : Nat) : List Dt := (List.range n).map fun (i : Nat) => .int (a + (i : Int))
theorem fromTo_len (a : Int) (n : Nat) : (fromTo a n).length = n := by unfold fromTo; rw [List.length_map, List.length_range]
theorem fromTo_get {a : Int} {n i : Nat} {d : Dt} (h : (fromTo a n)[i]? = some d) : d = .int (a + (i : Int)) ∧ i < n := by
  have hl := lt_get h
  rw [fromTo_len] at hl
  unfold fromTo at h
  rw [List.getElem?_map, List.getElem?_range hl] at h
  exact ⟨(Option.some.inj h).symm, hl⟩
theorem it_range2 {X : Cx} {tg a b : Expr} {env : LE} {μ μ1 : MU} {p pos : Pos} {i j : Int} (h : EvA X [a, b] env μ μ1 [.d (.int i), .d (.int j)]) (hg : Gl X "range") (hm : X.mg "range" = none) (h1 : -(2 ^ 62) ≤ i ∧ i < 2 ^ 62 ∧ -(2 ^ 62) ≤ j ∧ j < 2 ^ 62)
    (hs : starEach [a, b] X.env = [(false, eval a X.env), (false, eval b X.env)] := by rfl) (hs2 : starEach [b] X.env = [(false, eval b X.env)] := by rfl) : Itb X tg (.Call (.Name "range" p) [a, b] [] pos) env μ μ1 (fromTo i (j - i).toNat) := .mk fun σ G H A E S R q pins s I =>
  (pi_range2 hg hm pA hs hs2).run pins s σ H R I (h.run σ G H A E S _ fun vs G1 H1 A1 e1 p1 S1 r1 => by
    obtain ⟨v, w, rfl, r2, r3⟩ := Rp.two r1
    refine ⟨i, j, by rw [r2.int, r3.int], h1, q _ G1 H1 A1 e1 p1 S1 ⟨_, _, by rw [fromTo_len]; exact walk_range, fun _ _ => True.intro, fun n H2 v H3 d y e => ?_⟩⟩
    obtain ⟨rfl, _⟩ := fromTo_get e
    obtain ⟨y1, y2⟩ := y
    refine .inl ⟨y1, ?_⟩
    rw [y2]
    exact .int _)
/-! ### alike reaches -/
theorem wt_sub : ∀ {a b : List Man}, a.Sublist b → (∀ m ∈ b, m.ok) → wt a ≤ wt b
  | _, _, .slnil, _ => Int.le_refl _
  | a, x :: b, .cons _ h, ho => by
    rw [wt_cons]
    have h1 := (ho x (by simp)).1
    have := wt_sub h fun m hm => ho m (by simp [hm])
    omega
  | x :: a, _ :: b, .cons_cons _ h, ho => by
    rw [wt_cons, wt_cons]
    have := wt_sub h fun m hm => ho m (by simp [hm])
    omega
theorem wt_stay1 : ∀ {fs : List Man} {m : Man}, (fs.map (·.nm)).Nodup → m ∈ fs → wt (stay fs [m.nm]) = wt fs - m.hv
  | x :: fs, m, hn, hm => by
    obtain ⟨h1, h2⟩ := nd_tail hn
    unfold stay
    rw [List.filter_cons]
    rcases List.mem_cons.mp hm with rfl | hm
    · rw [if_neg (by simp), List.filter_eq_self.mpr, wt_cons]
      · omega
      · intro y hy
        have := h1 y hy
        simpa using this
    · have hne : ¬ x.nm = m.nm := fun e => h1 m hm e.symm
      rw [if_pos (by simpa using hne), wt_cons, wt_cons]
      have := wt_stay1 h2 hm
      unfold stay at this
      omega
  | [], _, _, hm => by cases hm
def Alike (fs : List Man) (c : Int) : Prop := ∀ m ∈ fs, m.rc = c
def okA (r : Raft) (fs : List Man) (x : Rat) (c : Int) (lot : List Str) : Prop := x ≤ (c : Rat) ∨ (x - (c : Rat)) * (tot r fs : Rat) ≤ (r.lg : Rat) * (wt (stay fs lot) : Rat)
instance (r : Raft) (fs : List Man) (x : Rat) (c : Int) (lot : List Str) : Decidable (okA r fs x c lot) := by unfold okA; infer_instance
theorem okA_congr {r : Raft} {fs : List Man} {x : Rat} {c : Int} {a b : List Str} (h : ∀ n, n ∈ a ↔ n ∈ b) : okA r fs x c a ↔ okA r fs x c b := by
  unfold okA; rw [stay_congr h]
theorem step_al {r : Raft} {fs : List Man} {x : Rat} {c : Int} {n : Str} (hr : r.ok) (hm : Men fs) (hn : (nms fs).Nodup) (al : Alike fs c) (hmem : n ∈ nms fs) :
    (goes r fs x n = none ∧ ¬ okA r fs x c [n]) ∨ ∃ y, goes r fs x n = some y ∧ okA r fs x c [n] ∧ ∀ lot, okA r (stay fs [n]) y c lot ↔ okA r fs x c (n :: lot) := by
  obtain ⟨m, hm0, rfl⟩ := List.mem_map.mp hmem
  have hw := wt_stay1 hn hm0
  have hge := wt_ge hm.2 hm0
  have hok := hm.2 m hm0
  have hT : tot r (stay fs [m.nm]) = tot r fs - m.hv := by unfold tot; rw [hw]; omega
  have h1 : (1 : Int) ≤ tot r fs - m.hv := by have := hr.2.2.1; unfold tot; omega
  have hd : (0 : Rat) < ((tot r fs - m.hv : Int) : Rat) := rat_pos_of h1
  have h2 : (1 : Int) ≤ tot r fs := by have := hok.1; omega
  have ht : (0 : Rat) < (tot r fs : Rat) := rat_pos_of h2
  have hs : ∀ lot, stay (stay fs [m.nm]) lot = stay fs (m.nm :: lot) := fun lot => stay_stay fs [m.nm] lot
  have hg : goes r fs x m.nm = goesM r fs x m := by unfold goes; rw [manOf_at hn hm0]; rfl
  have hc : m.rc = c := al m hm0
  rw [hg]
  unfold goesM okA
  simp only [hs, hT, hw, hc]
  by_cases hx : x ≤ (c : Rat)
  · right
    have e1 : ¬ (c : Rat) < x - (r.lg : Rat) * ((wt fs - m.hv : Int) : Rat) / (tot r fs : Rat) := by
      have hl : (0 : Rat) ≤ (r.lg : Rat) := Rat.le_of_lt (rat_pos_of hr.1)
      have hq : (0 : Rat) ≤ ((wt fs - m.hv : Int) : Rat) := by have : (0 : Int) ≤ wt fs - m.hv := by omega
                                                               exact_mod_cast this
      have := div_mono (Rat.mul_nonneg hl hq) ht
      have e : (0 : Rat) / (tot r fs : Rat) = 0 := by grind
      rw [e] at this
      grind
    rw [if_neg e1, if_neg (Rat.not_lt.mpr hx)]
    exact ⟨x, rfl, .inl hx, fun lot => ⟨fun _ => .inl hx, fun _ => .inl hx⟩⟩
  · have hx' := Rat.not_le.mp hx
    have hiff : (c : Rat) < x - (r.lg : Rat) * ((wt fs - m.hv : Int) : Rat) / (tot r fs : Rat) ↔ ¬ (x - (c : Rat)) * (tot r fs : Rat) ≤ (r.lg : Rat) * ((wt fs - m.hv : Int) : Rat) := by
      rw [Rat.not_le]
      generalize ((wt fs - m.hv : Int) : Rat) = o at *
      generalize (tot r fs : Rat) = T at *
      generalize (r.lg : Rat) = l at *
      generalize (c : Rat) = q at *
      constructor
      · intro h
        have h3 : l * o / T < x - q := by grind
        have := Rat.mul_lt_mul_of_pos_right h3 ht
        have e : l * o / T * T = l * o := by grind
        rw [e] at this; exact this
      · intro h
        have := Rat.mul_lt_mul_of_pos_right h (Rat.inv_pos.mpr ht)
        have e1 : l * o * T⁻¹ = l * o / T := by grind
        have e2 : (x - q) * T * T⁻¹ = x - q := by grind
        rw [e1, e2] at this
        grind
    by_cases hk : (c : Rat) < x - (r.lg : Rat) * ((wt fs - m.hv : Int) : Rat) / (tot r fs : Rat)
    · left
      rw [if_pos hk]
      exact ⟨rfl, fun z => z.elim hx (hiff.mp hk)⟩
    · right
      rw [if_neg hk, if_pos hx']
      have hk2 : (x - (c : Rat)) * (tot r fs : Rat) ≤ (r.lg : Rat) * ((wt fs - m.hv : Int) : Rat) := by
        by_cases z : (x - (c : Rat)) * (tot r fs : Rat) ≤ (r.lg : Rat) * ((wt fs - m.hv : Int) : Rat)
        · exact z
        · exact absurd (hiff.mpr z) hk
      refine ⟨_, rfl, .inr hk2, fun lot => ?_⟩
      have hTc : ((tot r fs - m.hv : Int) : Rat) = (tot r fs : Rat) - (m.hv : Rat) := Rat.intCast_sub ..
      have hpos : (0 : Rat) < (x - (c : Rat)) * (tot r fs : Rat) := Rat.mul_pos (by grind) ht
      rw [hTc] at hd ⊢
      generalize (r.lg : Rat) * (wt (stay fs (m.nm :: lot)) : Rat) = W at *
      generalize (tot r fs : Rat) = T at *
      generalize (c : Rat) = q at *
      generalize (m.hv : Rat) = v at *
      have ey : ((x * T - q * v) / (T - v) - q) * (T - v) = (x - q) * T := by grind
      have ez : (0 : Rat) < (x * T - q * v) / (T - v) - q := by
        have := Rat.mul_pos hpos (Rat.inv_pos.mpr hd)
        have e : (x - q) * T * (T - v)⁻¹ = (x * T - q * v) / (T - v) - q := by grind
        rw [e] at this; exact this
      rw [ey]
      constructor
      · rintro (z | z)
        · exact absurd z (by grind)
        · exact .inr z
      · rintro (z | z)
        · exact absurd z hx
        · exact .inr z
theorem okA_one {r : Raft} {fs : List Man} {x : Rat} {c : Int} {n : Str} {lot : List Str} (hr : r.ok) (hm : Men fs) (h : okA r fs x c (n :: lot)) : okA r fs x c [n] := by
  rcases h with h | h
  · exact .inl h
  · refine .inr (Rat.le_trans h ?_)
    have h1 : wt (stay fs (n :: lot)) ≤ wt (stay fs [n]) := by
      have e : stay fs (n :: lot) = stay (stay fs [n]) lot := (stay_stay fs [n] lot).symm
      rw [e]
      exact wt_sub (stay_sub _ _) (hm.stay _).2
    exact Rat.mul_le_mul_of_nonneg_left (Rat.intCast_le_intCast.mpr h1) (Rat.le_of_lt (rat_pos_of hr.1))
def facN : Nat → Nat
  | 0 => 1
  | k + 1 => (k + 1) * facN k
theorem flat_all {α β : Type} {f : α → List β} {c : Nat} : ∀ {l : List α}, (∀ a ∈ l, (f a).length = c) → (l.flatMap f).length = l.length * c
  | [], _ => by simp
  | a :: l, h => by
    rw [List.flatMap_cons, List.length_append, List.length_cons, Nat.succ_mul, h a (by simp), flat_all (f := f) (c := c) (l := l) fun b hb => h b (by simp [hb])]
    omega
theorem lessN_head {n : Str} {l : List Str} (h : (n :: l).Nodup) : lessN (n :: l) n = l := by
  unfold lessN
  rw [List.filter_cons, if_neg (by simp), List.filter_eq_self.mpr]
  intro y hy
  have : y ≠ n := fun e => (List.nodup_cons.mp h).1 (e ▸ hy)
  simpa using this
theorem ord_al {r : Raft} {c : Int} (hr : r.ok) : ∀ {k : Nat} {fs : List Man} {x : Rat} {lot : List Str}, Men fs → (nms fs).Nodup → Alike fs c → lot.Nodup → (∀ n ∈ lot, n ∈ nms fs) → lot.length = k →
    (okA r fs x c lot → (ordL r k fs x lot).length = facN k ∧ (ordL r k fs x lot).head? = some lot) ∧ (¬ okA r fs x c lot → lot ≠ [] → ordL r k fs x lot = [])
  | 0, fs, x, lot, _, _, _, _, _, hl => by
    have : lot = [] := List.length_eq_zero_iff.mp hl
    subst this
    exact ⟨fun _ => ⟨rfl, rfl⟩, fun _ z => absurd rfl z⟩
  | k + 1, fs, x, lot, hm, hn, al, hln, hsub, hl => by
    have hrec : ∀ n ∈ lot, ∀ y, _ := fun n hmem y => ord_al hr (k := k) (fs := stay fs [n]) (x := y) (lot := lessN lot n) (hm.stay _) (nd_stay hn _) (fun m hm => al m ((stay_sub _ _).mem hm)) (lessN_nd hln) (fun z hz => by
      obtain ⟨h1, h2⟩ := lessN_mem.mp hz
      obtain ⟨mx, h3, h4⟩ := List.mem_map.mp (hsub z h1)
      have h4 : mx.nm = z := h4
      exact List.mem_map.mpr ⟨mx, stay_mem.mpr ⟨h3, by rw [h4]; simpa using h2⟩, h4⟩) (by have := lessN_len hln hmem; omega)
    have hcg : ∀ n ∈ lot, (okA r fs x c (n :: lessN lot n) ↔ okA r fs x c lot) := fun n hmem => okA_congr fun z => ((lessN_perm hln hmem).mem_iff).symm
    rw [ordL_succ]
    constructor
    · intro ho
      have hst : ∀ n ∈ lot, (ordStep r k fs x lot n).length = facN k ∧ (ordStep r k fs x lot n).head? = some (n :: lessN lot n) := fun n hmem => by
        have h1 := (hcg n hmem).mpr ho
        rcases step_al (x := x) hr hm hn al (hsub n hmem) with ⟨_, z⟩ | ⟨y, e, _, hy⟩
        · exact absurd (okA_one hr hm h1) z
        · obtain ⟨h2, h3⟩ := (hrec n hmem y).1 ((hy _).mpr h1)
          unfold ordStep
          rw [e]
          simp only
          rw [List.length_map, List.head?_map, h3]
          exact ⟨h2, rfl⟩
      refine ⟨?_, ?_⟩
      · rw [flat_all fun n hmem => (hst n hmem).1, hl]; rfl
      · cases lot with
        | nil => cases hl
        | cons n l =>
          rw [List.flatMap_cons, List.head?_append, (hst n (by simp)).2, lessN_head hln]; rfl
    · intro ho hne
      rw [List.flatMap_eq_nil_iff]
      intro n hmem
      unfold ordStep
      rcases step_al (x := x) hr hm hn al (hsub n hmem) with ⟨e, _⟩ | ⟨y, e, h1, hy⟩
      · rw [e]
      · rw [e]
        simp only
        rw [List.map_eq_nil_iff]
        have hno : ¬ okA r (stay fs [n]) y c (lessN lot n) := fun z => ho ((hcg n hmem).mp ((hy _).mp z))
        refine (hrec n hmem y).2 hno fun z => ?_
        have hc := hcg n hmem
        rw [z] at hc
        exact ho (hc.mp h1)
def dueR (r : Raft) (fs : List Man) (x : Rat) (c : Int) : Rat := if x - (c : Rat) ≤ 0 then 0 else (x - (c : Rat)) * (tot r fs : Rat) / (r.lg : Rat)
theorem due_ok {r : Raft} {fs : List Man} {x : Rat} {c : Int} {lot : List Str} (hr : r.ok) (hm : Men fs) : okA r fs x c lot ↔ ¬ ((wt (stay fs lot) : Rat) < dueR r fs x c) := by
  have hl : (0 : Rat) < (r.lg : Rat) := rat_pos_of hr.1
  have hw : (0 : Rat) ≤ (wt (stay fs lot) : Rat) := by
    have := (wt_bd (hm.stay lot).2).1
    exact_mod_cast this
  unfold okA dueR
  rw [Rat.not_lt]
  by_cases h : x - (c : Rat) ≤ 0
  · rw [if_pos h]
    exact ⟨fun _ => hw, fun _ => .inl (by grind)⟩
  · rw [if_neg h]
    generalize (wt (stay fs lot) : Rat) = W at *
    generalize (x - (c : Rat)) * (tot r fs : Rat) = q at *
    generalize (r.lg : Rat) = l at *
    constructor
    · rintro (z | z)
      · exact absurd (by grind) h
      · have := div_mono z hl
        have e : l * W / l = W := by grind
        rw [e] at this; exact this
    · intro z
      right
      have := Rat.mul_le_mul_of_nonneg_right z (Rat.le_of_lt hl)
      have e : q / l * l = q := by grind
      rw [e] at this
      grind
theorem lay_lotK {l : List Str} (h : ∀ s ∈ l, PyData.canLay0 (.str s) = true) : Lay 1 (encK l) := by
  refine lay_tup (n := 0) fun d hd => ?_
  obtain ⟨s, hs, rfl⟩ := List.mem_map.mp hd
  exact lay_str (h s hs)
theorem eqv_lotK (l : List Str) : PyData.eqv (encK l) (.tuple []) = l.isEmpty := by
  cases l <;> simp [encK, PyData.eqv, PyData.eqvAll]
theorem lay_lotsK {os : List (List Str)} (h : ∀ o ∈ os, ∀ s ∈ o, PyData.canLay0 (.str s) = true) : Lay 2 (.list (os.map encK)) := by
  refine lay_lst (n := 1) fun d hd => ?_
  obtain ⟨o, ho, rfl⟩ := List.mem_map.mp hd
  exact lay_lotK (h o ho)
theorem mk_fracK (a : Int) {b : Int} (hb : 0 < b) : mkRat a b.toNat = (a : Rat) / (b : Rat) := by
  have h := mk_shared (a : Rat) hb
  rw [show ((a : Rat)).num = a from rfl, show (((a : Rat)).den : Int) = 1 from rfl, Int.one_mul] at h
  exact h
theorem mk_due (x : Rat) (T : Int) {l : Int} (hl : 0 < l) : mkRat (x.num * T) ((x.den : Int) * l).toNat = x * (T : Rat) / (l : Rat) := by
  rw [mk_fracK _ (Int.mul_pos (dn_pos x) hl), Rat.intCast_mul, Rat.intCast_mul]
  have hd : (0 : Rat) < ((x.den : Int) : Rat) := Rat.intCast_pos.mpr (dn_pos x)
  have hl' : (0 : Rat) < (l : Rat) := Rat.intCast_pos.mpr hl
  have hx : x = (x.num : Rat) / ((x.den : Int) : Rat) := by
    conv => lhs; rw [rat_parts x]
    rfl
  generalize (x.num : Rat) = a at *
  generalize ((x.den : Int) : Rat) = d at *
  rw [hx]
  generalize (T : Rat) = t at *
  generalize (l : Rat) = q at *
  grind
theorem facN_le : ∀ {k : Nat}, k ≤ 7 → facN k ≤ 5040
  | 0, _ | 1, _ | 2, _ | 3, _ | 4, _ | 5, _ | 6, _ | 7, _ => by decide
  | _ + 8, h => by omega
def rcs (fs : List Man) : List Int := fs.map (·.rc)
def mustD (t : TabA) : Dt := if (dedI (rcs t.fs)).length = 1 then rD (dueR t.r t.fs t.x ((rcs t.fs).headD 0)) else .none
/-- the same reach for all -/
def setR (fs : List Man) (c : Int) : List Man := fs.map fun m => ⟨m.nm, m.hv, c⟩
theorem setR_nm (fs : List Man) (c : Int) : nms (setR fs c) = nms fs := by unfold nms setR; rw [List.map_map]; rfl
theorem setR_al (fs : List Man) (c : Int) : Alike (setR fs c) c := fun m hm => by
  obtain ⟨x, _, rfl⟩ := List.mem_map.mp hm; rfl
theorem setR_men {fs : List Man} {c : Int} (h : Men fs) (h0 : 0 ≤ c) (h1 : c ≤ 100) : Men (setR fs c) := ⟨by unfold setR; rw [List.length_map]; exact h.1, fun m hm => by
  obtain ⟨x, hx, rfl⟩ := List.mem_map.mp hm
  have := h.2 x hx
  exact ⟨this.1, this.2.1, h0, h1⟩⟩
theorem setR_ok {fs : List Man} {c : Int} (h : NmOk fs) : NmOk (setR fs c) := fun m hm => by
  obtain ⟨x, hx, rfl⟩ := List.mem_map.mp hm
  exact h x hx
theorem setR_len (fs : List Man) (c : Int) : (setR fs c).length = fs.length := List.length_map ..
theorem rcs_al {fs : List Man} {c : Int} (h : Alike fs c) (h0 : 1 ≤ fs.length) : dedI (rcs fs) = [c] ∧ (rcs fs).headD 0 = c := by
  refine ⟨ded_alike (by unfold rcs; rw [List.length_map]; omega) fun n hn => ?_, ?_⟩
  · obtain ⟨m, hm, rfl⟩ := List.mem_map.mp hn
    exact h m hm
  · cases fs with
    | nil => simp at h0
    | cons m fs => exact h m (by simp)
theorem must_al {t : TabA} {c : Int} (h : Alike t.fs c) (h0 : 1 ≤ t.fs.length) : mustD t = rD (dueR t.r t.fs t.x c) := by
  obtain ⟨h1, h2⟩ := rcs_al h h0
  unfold mustD
  rw [h1, h2]; exact if_pos rfl
theorem cut_last {xs : List Dt} (h : 0 < xs.length) : cutD xs none (some (-1)) = xs.take (xs.length - 1) := by
  unfold cutD
  rw [HT.sIx_none, List.drop_zero]
  congr 1
  show (if (-1 : Int) < 0 then ((-1 : Int) + (xs.length : Int)).toNat else min (-1 : Int).toNat xs.length) - 0 = xs.length - 1
  rw [if_pos (by omega)]; omega
theorem at_last {xs : List Dt} (h : 0 < xs.length) : atI xs (-1) = some (xs[xs.length - 1]'(by omega)) := by
  unfold atI ixN
  rw [if_neg (by omega), if_pos (by omega)]
  show xs[((-1 : Int) + (xs.length : Int)).toNat]? = _
  rw [show ((-1 : Int) + (xs.length : Int)).toNat = xs.length - 1 by omega, List.getElem?_eq_getElem (by omega)]
end Rw
/-! Rw11: other measures, other names. -/
namespace Rw
open PySem PySem.Spec PyProof.Rows L2
/-- far, hard, and how names are changed -/
structure Ms where
  f : Int
  h : Int
  nu : Str → Str
structure MsO (c : Ms) : Prop where
  f1 : 1 ≤ c.f
  h1 : 1 ≤ c.h
  inj : ∀ a b, c.nu a = c.nu b → a = b
def Ms.r (c : Ms) (r : Raft) : Raft := ⟨r.lg * c.f, r.hv * c.h⟩
def Ms.m (c : Ms) (m : Man) : Man := ⟨c.nu m.nm, m.hv * c.h, m.rc * c.f⟩
def Ms.fs (c : Ms) (fs : List Man) : List Man := fs.map c.m
def Ms.x (c : Ms) (x : Rat) : Rat := x * (c.f : Rat)
def Ms.lot (c : Ms) (l : List Str) : List Str := l.map c.nu
section
variable {c : Ms} {r : Raft} {fs : List Man}
theorem wt_ms (c : Ms) : ∀ fs : List Man, wt (c.fs fs) = wt fs * c.h
  | [] => by simp [wt, Ms.fs]
  | m :: fs => by
    have ih := wt_ms c fs
    unfold Ms.fs at ih ⊢
    rw [List.map_cons, wt_cons, wt_cons, ih, Int.add_mul]; rfl
theorem tot_ms (c : Ms) (r : Raft) (fs : List Man) : tot (c.r r) (c.fs fs) = tot r fs * c.h := by unfold tot; rw [wt_ms, Int.add_mul]; rfl
theorem mom_ms (c : Ms) : ∀ (fs : List Man) (ps : List Rat), mom (c.fs fs) (ps.map c.x) = mom fs ps * (c.f : Rat) * (c.h : Rat)
  | [], ps => by
    rw [show c.fs [] = [] from rfl, mom_nil, mom_nil]; grind
  | m :: fs, [] => by
    show (0 : Rat) = 0 * _ * _
    grind
  | m :: fs, p :: ps => by
    have ih := mom_ms c fs ps
    show c.x p * ((m.hv * c.h : Int) : Rat) + mom (c.fs fs) (ps.map c.x) = (p * (m.hv : Rat) + mom fs ps) * _ * _
    rw [ih, Rat.intCast_mul]
    unfold Ms.x
    grind
theorem ms_f (o : MsO c) : (0 : Rat) < (c.f : Rat) := rat_pos_of o.f1
theorem ms_h (o : MsO c) : (0 : Rat) < (c.h : Rat) := rat_pos_of o.h1
theorem drv_ms (o : MsO c) (ht : 1 ≤ tot r fs) (ps : List Rat) : drv (c.r r) (c.fs fs) (ps.map c.x) = drv r fs ps * (c.f : Rat) := by
  unfold drv
  rw [mom_ms, tot_ms, Rat.intCast_mul]
  have h1 := ms_f o
  have h2 := ms_h o
  have h3 : (0 : Rat) < (tot r fs : Rat) := rat_pos_of ht
  generalize (tot r fs : Rat) = T at *
  generalize (c.f : Rat) = F at *
  generalize (c.h : Rat) = H at *
  grind
theorem front_ms (o : MsO c) (ht : 1 ≤ tot r fs) (g : Rat) (ps : List Rat) : front (c.r r) (c.fs fs) (c.x g) (ps.map c.x) = c.x (front r fs g ps) := by
  unfold front
  rw [drv_ms o ht]
  unfold Ms.x
  grind
theorem mul_le_f (o : MsO c) {a b : Rat} : a * (c.f : Rat) ≤ b * (c.f : Rat) ↔ a ≤ b := by
  have h := ms_f o
  generalize (c.f : Rat) = F at *
  constructor
  · intro z
    have := div_mono z h
    have e1 : a * F / F = a := by grind
    have e2 : b * F / F = b := by grind
    rw [e1, e2] at this; exact this
  · exact fun z => Rat.mul_le_mul_of_nonneg_right z (Rat.le_of_lt h)
theorem mul_lt_f (o : MsO c) {a b : Rat} : a * (c.f : Rat) < b * (c.f : Rat) ↔ a < b := by
  rw [← Rat.not_le, ← Rat.not_le, mul_le_f o]
theorem allAt_ms (c : Ms) (fs : List Man) (x : Int) : allAt (c.fs fs) ((x * c.f : Int) : Rat) = (allAt fs (x : Rat)).map c.x := by
  unfold allAt Ms.fs Ms.x
  rw [List.map_map, List.map_map, Rat.intCast_mul]; rfl
theorem least_ms (o : MsO c) (ht : 1 ≤ tot r fs) (x : Rat) : leastG (c.r r) (c.fs fs) (c.x x) = c.x (leastG r fs x) := by
  unfold leastG
  show (if 0 ≤ c.x x - drv (c.r r) (c.fs fs) (allAt (c.fs fs) ((r.lg * c.f : Int) : Rat)) then _ else _) = _
  rw [allAt_ms, drv_ms o ht]
  show (if 0 ≤ c.x x - drv r fs (allAt fs (r.lg : Rat)) * (c.f : Rat) then c.x x - drv (c.r r) (c.fs fs) (allAt (c.fs fs) ((r.lg * c.f : Int) : Rat)) else 0) = _
  rw [allAt_ms, drv_ms o ht]
  generalize drv r fs (allAt fs (r.lg : Rat)) = d
  have e : c.x x - d * (c.f : Rat) = (x - d) * (c.f : Rat) := by unfold Ms.x; grind
  have hi : 0 ≤ (x - d) * (c.f : Rat) ↔ 0 ≤ x - d := by
    have := mul_le_f o (a := 0) (b := x - d)
    rw [Rat.zero_mul] at this; exact this
  rw [e]
  by_cases q : 0 ≤ x - d
  · rw [if_pos (hi.mpr q), if_pos q]; rfl
  · rw [if_neg (fun z => q (hi.mp z)), if_neg q]
    unfold Ms.x; grind
theorem goesM_ms (o : MsO c) (ht : 1 ≤ tot r fs) {m : Man} (hv : 1 ≤ tot r fs - m.hv) (x : Rat) : goesM (c.r r) (c.fs fs) (c.x x) (c.m m) = (goesM r fs x m).map c.x := by
  have hF := ms_f o
  have hH := ms_h o
  have hT : (0 : Rat) < (tot r fs : Rat) := rat_pos_of ht
  have hW : (0 : Rat) < ((tot r fs - m.hv : Int) : Rat) := rat_pos_of hv
  unfold goesM
  show (if ((m.rc * c.f : Int) : Rat) < c.x x - ((r.lg * c.f : Int) : Rat) * ((wt (c.fs fs) - m.hv * c.h : Int) : Rat) / (tot (c.r r) (c.fs fs) : Rat) then none
    else if ((m.rc * c.f : Int) : Rat) < c.x x then some ((c.x x * (tot (c.r r) (c.fs fs) : Rat) - ((m.rc * c.f : Int) : Rat) * ((m.hv * c.h : Int) : Rat)) / ((tot (c.r r) (c.fs fs) - m.hv * c.h : Int) : Rat)) else some (c.x x)) = _
  rw [wt_ms, tot_ms, ← Int.sub_mul, ← Int.sub_mul]
  simp only [Rat.intCast_mul]
  have e1 : c.x x - (r.lg : Rat) * (c.f : Rat) * (((wt fs - m.hv : Int) : Rat) * (c.h : Rat)) / ((tot r fs : Rat) * (c.h : Rat)) = (x - (r.lg : Rat) * ((wt fs - m.hv : Int) : Rat) / (tot r fs : Rat)) * (c.f : Rat) := by
    unfold Ms.x
    generalize ((wt fs - m.hv : Int) : Rat) = w at *
    generalize (tot r fs : Rat) = T at *
    generalize (c.f : Rat) = F at *
    generalize (c.h : Rat) = H at *
    grind
  have e2 : (c.x x * ((tot r fs : Rat) * (c.h : Rat)) - (m.rc : Rat) * (c.f : Rat) * ((m.hv : Rat) * (c.h : Rat))) / (((tot r fs - m.hv : Int) : Rat) * (c.h : Rat)) = c.x ((x * (tot r fs : Rat) - (m.rc : Rat) * (m.hv : Rat)) / ((tot r fs - m.hv : Int) : Rat)) := by
    unfold Ms.x
    generalize ((tot r fs - m.hv : Int) : Rat) = w at *
    generalize (tot r fs : Rat) = T at *
    generalize (c.f : Rat) = F at *
    generalize (c.h : Rat) = H at *
    grind
  rw [e1, e2]
  have c1 := mul_lt_f o (a := (m.rc : Rat)) (b := x - (r.lg : Rat) * ((wt fs - m.hv : Int) : Rat) / (tot r fs : Rat))
  have c2 : (m.rc : Rat) * (c.f : Rat) < c.x x ↔ (m.rc : Rat) < x := mul_lt_f o
  by_cases q1 : (m.rc : Rat) < x - (r.lg : Rat) * ((wt fs - m.hv : Int) : Rat) / (tot r fs : Rat)
  · rw [if_pos (c1.mpr q1), if_pos q1]; rfl
  · rw [if_neg (fun z => q1 (c1.mp z)), if_neg q1]
    by_cases q2 : (m.rc : Rat) < x
    · rw [if_pos (c2.mpr q2), if_pos q2]; rfl
    · rw [if_neg (fun z => q2 (c2.mp z)), if_neg q2]; rfl
theorem poo_ms (o : MsO c) (ht : 1 ≤ tot r fs) {m : Man} (hw : 0 ≤ wt fs - m.hv) (x : Rat) : (poo (c.r r) (c.fs fs) (c.x x) (c.m m)).isSome = (poo r fs x m).isSome := by
  have hF := ms_f o
  have hH := ms_h o
  have hT : (0 : Rat) < (tot r fs : Rat) := rat_pos_of ht
  unfold poo
  show (if c.x x - ((m.rc * c.f : Int) : Rat) ≤ 0 then some 0 else if wt (c.fs fs) - m.hv * c.h = 0 then none
    else if (c.x x - ((m.rc * c.f : Int) : Rat)) * (tot (c.r r) (c.fs fs) : Rat) / ((wt (c.fs fs) - m.hv * c.h : Int) : Rat) ≤ ((r.lg * c.f : Int) : Rat) then some ((c.x x - ((m.rc * c.f : Int) : Rat)) * (tot (c.r r) (c.fs fs) : Rat) / ((wt (c.fs fs) - m.hv * c.h : Int) : Rat)) else none).isSome = _
  rw [wt_ms, tot_ms, ← Int.sub_mul]
  have e0 : c.x x - ((m.rc * c.f : Int) : Rat) = (x - (m.rc : Rat)) * (c.f : Rat) := by rw [Rat.intCast_mul]; unfold Ms.x; grind
  rw [e0]
  have c0 : (x - (m.rc : Rat)) * (c.f : Rat) ≤ 0 ↔ x - (m.rc : Rat) ≤ 0 := by
    have := mul_le_f o (a := x - (m.rc : Rat)) (b := 0)
    rw [Rat.zero_mul] at this; exact this
  by_cases q0 : x - (m.rc : Rat) ≤ 0
  · rw [if_pos (c0.mpr q0), if_pos q0]
  · rw [if_neg (fun z => q0 (c0.mp z)), if_neg q0]
    by_cases q1 : wt fs - m.hv = 0
    · simp [q1]
    · have hne : ¬ (wt fs - m.hv) * c.h = 0 := fun z => by
        rcases Int.mul_eq_zero.mp z with z | z
        · exact q1 z
        · have := o.h1; omega
      rw [if_neg hne, if_neg q1]
      have hw1 : (0 : Rat) < ((wt fs - m.hv : Int) : Rat) := rat_pos_of (by omega)
      have e1 : (x - (m.rc : Rat)) * (c.f : Rat) * ((tot r fs * c.h : Int) : Rat) / (((wt fs - m.hv) * c.h : Int) : Rat) = ((x - (m.rc : Rat)) * (tot r fs : Rat) / ((wt fs - m.hv : Int) : Rat)) * (c.f : Rat) := by
        rw [Rat.intCast_mul, Rat.intCast_mul]
        generalize ((wt fs - m.hv : Int) : Rat) = w at *
        generalize (tot r fs : Rat) = T at *
        generalize (c.f : Rat) = F at *
        generalize (c.h : Rat) = H at *
        grind
      rw [e1, Rat.intCast_mul]
      have c1 := mul_le_f o (a := (x - (m.rc : Rat)) * (tot r fs : Rat) / ((wt fs - m.hv : Int) : Rat)) (b := (r.lg : Rat))
      by_cases q2 : (x - (m.rc : Rat)) * (tot r fs : Rat) / ((wt fs - m.hv : Int) : Rat) ≤ (r.lg : Rat)
      · rw [if_pos (c1.mpr q2), if_pos q2]; rfl
      · rw [if_neg (fun z => q2 (c1.mp z)), if_neg q2]
theorem nms_ms (c : Ms) (fs : List Man) : nms (c.fs fs) = c.lot (nms fs) := by unfold nms Ms.fs Ms.lot; rw [List.map_map, List.map_map]; rfl
theorem nu_mem (o : MsO c) {l : List Str} {n : Str} : c.nu n ∈ c.lot l ↔ n ∈ l := by
  unfold Ms.lot
  rw [List.mem_map]
  constructor
  · rintro ⟨a, ha, e⟩
    rw [← o.inj _ _ e]; exact ha
  · exact fun h => ⟨n, h, rfl⟩
theorem stay_ms (o : MsO c) (fs : List Man) (l : List Str) : stay (c.fs fs) (c.lot l) = c.fs (stay fs l) := by
  unfold stay Ms.fs
  rw [List.filter_map]
  congr 2
  funext m
  show (!decide (c.nu m.nm ∈ c.lot l)) = !decide (m.nm ∈ l)
  rw [decide_eq_decide.mpr (nu_mem o)]
theorem less_ms (o : MsO c) (l : List Str) (n : Str) : lessN (c.lot l) (c.nu n) = c.lot (lessN l n) := by
  unfold lessN Ms.lot
  rw [List.filter_map]
  congr 2
  funext m
  show (!decide (c.nu m = c.nu n)) = !decide (m = n)
  rw [decide_eq_decide.mpr ⟨o.inj _ _, fun e => by rw [e]⟩]
theorem manOf_ms (o : MsO c) : ∀ (fs : List Man) (n : Str), manOf (c.fs fs) (c.nu n) = (manOf fs n).map c.m
  | [], _ => rfl
  | m :: fs, n => by
    have ih := manOf_ms o fs n
    unfold manOf Ms.fs at ih ⊢
    rw [List.map_cons, List.find?_cons, List.find?_cons]
    have : decide ((c.m m).nm = c.nu n) = decide (m.nm = n) := decide_eq_decide.mpr ⟨o.inj _ _, fun e => by show c.nu m.nm = _; rw [e]⟩
    rw [this]
    cases decide (m.nm = n)
    · exact ih
    · rfl
theorem goes_ms (o : MsO c) (hr : r.ok) (hm : Men fs) (x : Rat) (n : Str) : goes (c.r r) (c.fs fs) (c.x x) (c.nu n) = (goes r fs x n).map c.x := by
  unfold goes
  rw [manOf_ms o]
  cases e : manOf fs n with
  | none => rfl
  | some m =>
    have hm0 := (manOf_mem e).1
    have hge := wt_ge hm.2 hm0
    have h1 : (1 : Int) ≤ tot r fs - m.hv := by have := hr.2.2.1; unfold tot; omega
    exact goesM_ms o (tot_bd hr hm).1 h1 x
theorem lot_len (c : Ms) (l : List Str) : (c.lot l).length = l.length := List.length_map ..
theorem ordL_ms (o : MsO c) (hr : r.ok) : ∀ {k : Nat} {fs : List Man} {x : Rat} {lot : List Str}, Men fs → ordL (c.r r) k (c.fs fs) (c.x x) (c.lot lot) = (ordL r k fs x lot).map c.lot
  | 0, _, _, _, _ => rfl
  | k + 1, fs, x, lot, hm => by
    rw [ordL_succ, ordL_succ]
    unfold Ms.lot
    rw [List.flatMap_map, List.map_flatMap]
    congr 1
    funext n
    unfold ordStep
    rw [goes_ms o hr hm]
    cases goes r fs x n with
    | none => rfl
    | some y =>
      show (ordL (c.r r) k (stay (c.fs fs) [c.nu n]) (c.x y) (lessN (c.lot lot) (c.nu n))).map _ = _
      rw [show [c.nu n] = c.lot [n] from rfl, stay_ms o, less_ms o, ordL_ms o hr (hm.stay _), List.map_map, List.map_map]
      rfl
theorem minO_ms (o : MsO c) (a b : Option Rat) : minO (a.map c.x) (b.map c.x) = (minO a b).map c.x := by
  cases a with
  | none => cases b <;> rfl
  | some a =>
    cases b with
    | none => rfl
    | some b =>
      show some (if c.x b ≤ c.x a then c.x b else c.x a) = some (c.x (if b ≤ a then b else a))
      have : c.x b ≤ c.x a ↔ b ≤ a := mul_le_f o
      by_cases q : b ≤ a
      · rw [if_pos (this.mpr q), if_pos q]
      · rw [if_neg (fun z => q (this.mp z)), if_neg q]
theorem foldO_ms (o : MsO c) : ∀ (l : List (Option Rat)) (a : Option Rat), (l.map fun y => y.map c.x).foldl minO (a.map c.x) = (l.foldl minO a).map c.x
  | [], _ => rfl
  | b :: l, a => by rw [List.map_cons, List.foldl_cons, List.foldl_cons, minO_ms o, foldO_ms o l]
theorem bestG_ms (o : MsO c) (hr : r.ok) (hm : Men fs) (x : Rat) : ∀ (k : Nat) (lot : List Str), bestG (c.r r) (c.fs fs) (c.x x) k (c.lot lot) = (bestG r fs x k lot).map c.x
  | 0, _ => rfl
  | k + 1, lot => by
    show minL ((c.lot lot).map _) = (minL (lot.map _)).map c.x
    unfold minL
    have := foldO_ms o (lot.map fun n => (bestG r fs x k (lessN lot n)).bind fun y => goes r (stay fs (lessN lot n)) y n) none
    refine Eq.trans ?_ this
    show List.foldl minO none _ = List.foldl minO none _
    congr 1
    rw [List.map_map]
    unfold Ms.lot
    rw [List.map_map]
    refine List.map_congr_left fun n _ => ?_
    show (bestG (c.r r) (c.fs fs) (c.x x) k (lessN (c.lot lot) (c.nu n))).bind (fun y => goes (c.r r) (stay (c.fs fs) (lessN (c.lot lot) (c.nu n))) y (c.nu n)) = Option.map c.x ((bestG r fs x k (lessN lot n)).bind fun y => goes r (stay fs (lessN lot n)) y n)
    rw [less_ms o, bestG_ms o hr hm x k, stay_ms o]
    cases bestG r fs x k (lessN lot n) with
    | none => rfl
    | some y => exact goes_ms o hr (hm.stay _) y n
theorem subL_ms (c : Ms) (ns : List Str) : subL (c.lot ns) = (subL ns).map c.lot := by
  refine snoc_ind (p := fun ns => subL (c.lot ns) = (subL ns).map c.lot) rfl (fun l n ih => ?_) ns
  have e : c.lot (l ++ [n]) = c.lot l ++ [c.nu n] := List.map_append ..
  rw [e, subL_snoc, subL_snoc, ih, List.map_append, List.map_map, List.map_map]
  congr 1
  refine List.map_congr_left fun z _ => ?_
  show c.lot z ++ [c.nu n] = c.lot (z ++ [n])
  exact (List.map_append (f := c.nu) (l₁ := z) (l₂ := [n])).symm
/-- the order of names is kept -/
def Keeps (c : Ms) (ns : List Str) : Prop := ∀ a ∈ ns, ∀ b ∈ ns, (a.cps.toList < b.cps.toList ↔ (c.nu a).cps.toList < (c.nu b).cps.toList)
theorem lexS_ms (o : MsO c) {ns : List Str} (hk : Keeps c ns) : ∀ {a b : List Str}, (∀ x ∈ a, x ∈ ns) → (∀ x ∈ b, x ∈ ns) → lexS (c.lot a) (c.lot b) = lexS a b
  | [], [], _, _ => rfl
  | _ :: _, [], _, _ => rfl
  | [], _ :: _, _, _ => rfl
  | x :: a, y :: b, ha, hb => by
    show (if c.nu x = c.nu y then lexS (c.lot a) (c.lot b) else decide ((c.nu x).cps.toList < (c.nu y).cps.toList)) = if x = y then lexS a b else decide (x.cps.toList < y.cps.toList)
    by_cases e : x = y
    · rw [if_pos (by rw [e]), if_pos e]
      exact lexS_ms o hk (fun z hz => ha z (by simp [hz])) (fun z hz => hb z (by simp [hz]))
    · rw [if_neg (fun z => e (o.inj _ _ z)), if_neg e]
      exact decide_eq_decide.mpr (hk x (ha x (by simp)) y (hb y (by simp))).symm
theorem lotsL_ms (o : MsO c) (hk : Keeps c (nms fs)) : lotsL (c.fs fs) = (lotsL fs).map c.lot := by
  unfold lotsL
  rw [nms_ms, subL_ms]
  refine (List.map_mergeSort fun a ha b hb => ?_).symm
  have h1 := ((subL_mem _ _).mp ha).subset
  have h2 := ((subL_mem _ _).mp hb).subset
  unfold leS
  rw [lexS_ms o hk (fun x hx => h2 hx) (fun x hx => h1 hx)]
theorem canL_ms (o : MsO c) (hr : r.ok) (hm : Men fs) (x : Rat) (ls : List (List Str)) : (ls.map c.lot).filter (fun l => (bestG (c.r r) (c.fs fs) (c.x x) l.length l).isSome) = (ls.filter fun l => (bestG r fs x l.length l).isSome).map c.lot := by
  rw [List.filter_map]
  congr 2
  funext l
  show (bestG (c.r r) (c.fs fs) (c.x x) (c.lot l).length (c.lot l)).isSome = _
  rw [lot_len, bestG_ms o hr hm, Option.isSome_map]
theorem due_ms (o : MsO c) (hr : r.ok) (x : Rat) (q : Int) : dueR (c.r r) (c.fs fs) (c.x x) (q * c.f) = dueR r fs x q * (c.h : Rat) := by
  have hF := ms_f o
  have hL : (0 : Rat) < (r.lg : Rat) := rat_pos_of hr.1
  unfold dueR
  have e0 : c.x x - ((q * c.f : Int) : Rat) = (x - (q : Rat)) * (c.f : Rat) := by rw [Rat.intCast_mul]; unfold Ms.x; grind
  rw [e0, tot_ms]
  show (if (x - (q : Rat)) * (c.f : Rat) ≤ 0 then 0 else (x - (q : Rat)) * (c.f : Rat) * ((tot r fs * c.h : Int) : Rat) / ((r.lg * c.f : Int) : Rat)) = _
  have c0 : (x - (q : Rat)) * (c.f : Rat) ≤ 0 ↔ x - (q : Rat) ≤ 0 := by
    have := mul_le_f o (a := x - (q : Rat)) (b := 0)
    rw [Rat.zero_mul] at this; exact this
  by_cases q0 : x - (q : Rat) ≤ 0
  · rw [if_pos (c0.mpr q0), if_pos q0]; grind
  · rw [if_neg (fun z => q0 (c0.mp z)), if_neg q0, Rat.intCast_mul, Rat.intCast_mul]
    generalize (r.lg : Rat) = L at *
    generalize (c.f : Rat) = F at *
    grind
theorem ded_one {ns : List Int} : (dedI ns).length = 1 ↔ ∃ q, ns ≠ [] ∧ ∀ n ∈ ns, n = q := by
  constructor
  · intro e
    obtain ⟨q, hq⟩ := List.length_eq_one_iff.mp e
    refine ⟨q, (fun z => by rw [z] at e; cases e), fun n hn => ?_⟩
    have := ded_any ns hn
    rw [hq, List.mem_singleton] at this; exact this
  · rintro ⟨q, h0, h⟩
    rw [ded_alike (List.length_pos_iff.mpr h0) h]; rfl
theorem rcs_ms (c : Ms) (fs : List Man) : rcs (c.fs fs) = (rcs fs).map (· * c.f) := by unfold rcs Ms.fs; rw [List.map_map, List.map_map]; rfl
theorem ded_ms (o : MsO c) (fs : List Man) : (dedI (rcs (c.fs fs))).length = 1 ↔ (dedI (rcs fs)).length = 1 := by
  rw [ded_one, ded_one, rcs_ms]
  constructor
  · rintro ⟨q, h0, h⟩
    cases e : rcs fs with
    | nil => rw [e] at h0; exact absurd rfl h0
    | cons a l =>
      refine ⟨a, by simp, fun n hn => ?_⟩
      have h1 := h (a * c.f) (List.mem_map.mpr ⟨a, by rw [e]; simp, rfl⟩)
      have h2 := h (n * c.f) (List.mem_map.mpr ⟨n, by rw [e]; exact hn, rfl⟩)
      have := o.f1
      exact Int.eq_of_mul_eq_mul_right (show c.f ≠ 0 by omega) (h2.trans h1.symm)
  · rintro ⟨q, h0, h⟩
    refine ⟨q * c.f, by simpa using h0, fun n hn => ?_⟩
    obtain ⟨a, ha, rfl⟩ := List.mem_map.mp hn
    show a * c.f = q * c.f
    rw [h a ha]
def Ms.tab (c : Ms) (t : TabA) : TabA := ⟨c.r t.r, c.fs t.fs, c.x t.g, t.ps.map c.x⟩
theorem tab_x (o : MsO c) {t : TabA} (h : 1 ≤ tot t.r t.fs) : (c.tab t).x = c.x t.x := front_ms o h t.g t.ps
theorem must_ms (o : MsO c) {t : TabA} (hr : t.r.ok) (h : 1 ≤ tot t.r t.fs) : mustD (c.tab t) = if (dedI (rcs t.fs)).length = 1 then rD (dueR t.r t.fs t.x ((rcs t.fs).headD 0) * (c.h : Rat)) else .none := by
  unfold mustD
  rw [tab_x o h]
  show (if (dedI (rcs (c.fs t.fs))).length = 1 then rD (dueR (c.r t.r) (c.fs t.fs) (c.x t.x) ((rcs (c.fs t.fs)).headD 0)) else .none) = _
  by_cases q : (dedI (rcs t.fs)).length = 1
  · rw [if_pos ((ded_ms o t.fs).mpr q), if_pos q]
    have e : (rcs (c.fs t.fs)).headD 0 = (rcs t.fs).headD 0 * c.f := by
      rw [rcs_ms]
      cases rcs t.fs with
      | nil => simp
      | cons a l => rfl
    rw [e, due_ms o hr]
  · rw [if_neg (fun z => q ((ded_ms o t.fs).mp z)), if_neg q]
/-! names with a sign more -/
def msOf (f h : Int) (s : Str) : Ms := ⟨f, h, fun a => a ++ s⟩
theorem app_inj {a b s : Str} (h : a ++ s = b ++ s) : a = b := by
  have h1 : (a ++ s).cps.toList = (b ++ s).cps.toList := by rw [h]
  have e : ∀ x : Str, (x ++ s).cps.toList = x.cps.toList ++ s.cps.toList := fun x => by
    show (x.cps ++ s.cps).toList = _
    simp
  rw [e, e] at h1
  exact str_ext (List.append_cancel_right h1)
theorem msO_of {f h : Int} {s : Str} (h1 : 1 ≤ f) (h2 : 1 ≤ h) : MsO (msOf f h s) := ⟨h1, h2, fun a b e => app_inj e⟩
theorem keeps_all (f h : Int) : ∀ s ∈ [("" : Str), "x"], Keeps (msOf f h s) allNames := by
  intro s hs
  have : ∀ s ∈ [("" : Str), "x"], ∀ a ∈ allNames, ∀ b ∈ allNames, (a.cps.toList < b.cps.toList ↔ ((a ++ s).cps.toList < (b ++ s).cps.toList)) := by decide +kernel
  exact this s hs
theorem rise_all : ∀ s ∈ [("" : Str), "x"], Rise (allNames.map fun a => a ++ s) := by decide +kernel
theorem lay_all2 : ∀ s ∈ [("" : Str), "x"], ∀ a ∈ allNames, PyData.canLay0 (.str (a ++ s)) = true := by decide +kernel
end
end Rw
/-! Rw5: a step off, told by places, and told by front gaps. -/
namespace Rw
open PySem PySem.Spec PyProof.Rows L2
theorem oth_pos {r : Raft} {fs : List Man} {m : Man} (hr : r.ok) (hm : Men fs) (hmem : m ∈ fs) : 0 ≤ wt fs - m.hv ∧ (1 : Int) ≤ tot r fs - m.hv ∧ (1 : Int) ≤ tot r fs := by
  have h1 := wt_ge hm.2 hmem
  have h2 := hr.2.2.1
  have h3 := (hm.2 m hmem).1
  unfold tot
  refine ⟨?_, ?_, ?_⟩ <;> omega
/-- one place for the others: who steps off so leaves the front gap that goesM tells -/
theorem poo_step {r : Raft} {fs : List Man} {m : Man} {x p : Rat} (hr : r.ok) (hm : Men fs) (hmem : m ∈ fs) (e : poo r fs x m = some p) :
    goesM r fs x m = some ((x - p * ((wt fs - m.hv : Int) : Rat) / (tot r fs : Rat)) + p * ((wt fs - m.hv : Int) : Rat) / ((tot r fs - m.hv : Int) : Rat)) ∧ x - p * ((wt fs - m.hv : Int) : Rat) / (tot r fs : Rat) ≤ (m.rc : Rat) ∧ 0 ≤ p ∧ p ≤ (r.lg : Rat) := by
  obtain ⟨h0, h1, h2⟩ := oth_pos hr hm hmem
  have hl : (0 : Rat) < (r.lg : Rat) := rat_pos_of hr.1
  have hT : (0 : Rat) < (tot r fs : Rat) := rat_pos_of h2
  have hW : (0 : Rat) < ((tot r fs - m.hv : Int) : Rat) := rat_pos_of h1
  have hTW : ((tot r fs - m.hv : Int) : Rat) = (tot r fs : Rat) - (m.hv : Rat) := Rat.intCast_sub ..
  have ho : (0 : Rat) ≤ ((wt fs - m.hv : Int) : Rat) := by exact_mod_cast h0
  have hz : ¬ wt fs - m.hv = 0 → (0 : Rat) < ((wt fs - m.hv : Int) : Rat) := fun z => rat_pos_of (by omega)
  unfold poo at e
  unfold goesM
  by_cases q0 : x - (m.rc : Rat) ≤ 0
  · rw [if_pos q0] at e
    have e := Option.some.inj e
    subst e
    have e1 : x - (0 : Rat) * ((wt fs - m.hv : Int) : Rat) / (tot r fs : Rat) = x := by grind
    have e2 : (0 : Rat) * ((wt fs - m.hv : Int) : Rat) / ((tot r fs - m.hv : Int) : Rat) = 0 := by grind
    have hc : (0 : Rat) ≤ (r.lg : Rat) * ((wt fs - m.hv : Int) : Rat) / (tot r fs : Rat) := by
      have := div_mono (Rat.mul_nonneg (Rat.le_of_lt hl) ho) hT
      have e : (0 : Rat) / (tot r fs : Rat) = 0 := by grind
      rw [e] at this; exact this
    rw [e1, e2, if_neg (by grind), if_neg (by grind)]
    exact ⟨by grind, by grind, Rat.le_refl, Rat.le_of_lt hl⟩
  · rw [if_neg q0] at e
    by_cases q1 : wt fs - m.hv = 0
    · rw [if_pos q1] at e; cases e
    · rw [if_neg q1] at e
      have hz := hz q1
      split at e
      · rename_i q2
        have e := Option.some.inj e
        subst e
        generalize ((wt fs - m.hv : Int) : Rat) = o at *
        rw [hTW] at hW ⊢
        generalize (tot r fs : Rat) = T at *
        generalize (m.hv : Rat) = v at *
        generalize (m.rc : Rat) = c at *
        generalize (r.lg : Rat) = l at *
        have e1 : x - (x - c) * T / o * o / T = c := by grind
        have e2 : (x - c) * T / o * o / (T - v) = (x - c) * T / (T - v) := by grind
        have hx : c < x := by grind
        have h3 : (x - c) * T ≤ l * o := by
          have := Rat.mul_le_mul_of_nonneg_right q2 (Rat.le_of_lt hz)
          have e3 : (x - c) * T / o * o = (x - c) * T := by grind
          rw [e3] at this; exact this
        have h4 : ¬ c < x - l * o / T := by
          have := div_mono h3 hT
          have e4 : (x - c) * T / T = x - c := by grind
          rw [e4] at this
          grind
        rw [e1, e2, if_neg h4, if_pos hx]
        refine ⟨by congr 1; grind, Rat.le_refl, ?_, q2⟩
        have h5 : (0 : Rat) ≤ (x - c) * T := Rat.mul_nonneg (by grind) (Rat.le_of_lt hT)
        have := div_mono h5 hz
        have e5 : (0 : Rat) / o = 0 := by grind
        rw [e5] at this; exact this
      · cases e
theorem poo_none_goes {r : Raft} {fs : List Man} {m : Man} {x : Rat} (hr : r.ok) (hm : Men fs) (hmem : m ∈ fs) (e : poo r fs x m = none) : goesM r fs x m = none := by
  obtain ⟨h0, h1, h2⟩ := oth_pos hr hm hmem
  have hT : (0 : Rat) < (tot r fs : Rat) := rat_pos_of h2
  have hz : ¬ wt fs - m.hv = 0 → (0 : Rat) < ((wt fs - m.hv : Int) : Rat) := fun z => rat_pos_of (by omega)
  unfold poo at e
  unfold goesM
  by_cases q0 : x - (m.rc : Rat) ≤ 0
  · rw [if_pos q0] at e; cases e
  · rw [if_neg q0] at e
    by_cases q1 : wt fs - m.hv = 0
    · rw [q1, if_pos]
      have e1 : (r.lg : Rat) * ((0 : Int) : Rat) / (tot r fs : Rat) = 0 := by
        rw [show ((0 : Int) : Rat) = 0 from rfl]; grind
      rw [e1]; grind
    · rw [if_neg q1] at e
      have hz := hz q1
      split at e
      · cases e
      · rename_i q2
        rw [if_pos]
        generalize ((wt fs - m.hv : Int) : Rat) = o at *
        generalize (tot r fs : Rat) = T at *
        generalize (m.rc : Rat) = c at *
        generalize (r.lg : Rat) = l at *
        have q2 := Rat.not_le.mp q2
        have h3 := Rat.mul_lt_mul_of_pos_right q2 hz
        have e3 : (x - c) * T / o * o = (x - c) * T := by grind
        rw [e3] at h3
        have h4 := Rat.mul_lt_mul_of_pos_right h3 (Rat.inv_pos.mpr hT)
        have e4 : l * o * T⁻¹ = l * o / T := by grind
        have e5 : (x - c) * T * T⁻¹ = x - c := by grind
        rw [e4, e5] at h4
        grind
/-- any way of standing from which somebody steps off leaves a front gap no less than goesM tells -/
theorem step_ge {r : Raft} {fs : List Man} {m : Man} {x G M : Rat} (hr : r.ok) (hm : Men fs) (hmem : m ∈ fs) (hM0 : 0 ≤ M) (hM : M ≤ (r.lg : Rat) * ((wt fs - m.hv : Int) : Rat)) (hG : G = x - M / (tot r fs : Rat)) (hc : G ≤ (m.rc : Rat)) :
    ∃ y, goesM r fs x m = some y ∧ y ≤ G + M / ((tot r fs - m.hv : Int) : Rat) := by
  obtain ⟨h0, h1, h2⟩ := oth_pos hr hm hmem
  have hT : (0 : Rat) < (tot r fs : Rat) := rat_pos_of h2
  have hW : (0 : Rat) < ((tot r fs - m.hv : Int) : Rat) := rat_pos_of h1
  have hv : (0 : Rat) < (m.hv : Rat) := rat_pos_of (hm.2 m hmem).1
  have hTW : ((tot r fs - m.hv : Int) : Rat) = (tot r fs : Rat) - (m.hv : Rat) := Rat.intCast_sub ..
  unfold goesM
  generalize ((wt fs - m.hv : Int) : Rat) = o at *
  rw [hTW] at hW ⊢
  generalize (tot r fs : Rat) = T at *
  generalize (m.hv : Rat) = v at *
  generalize (m.rc : Rat) = c at *
  generalize (r.lg : Rat) = l at *
  have hx : x = G + M / T := by grind
  have hMT := div_mono hM hT
  have hMW0 : (0 : Rat) ≤ M / (T - v) := by
    have := div_mono hM0 hW
    have e5 : (0 : Rat) / (T - v) = 0 := by grind
    rw [e5] at this; exact this
  have hMT0 : (0 : Rat) ≤ M / T := by
    have := div_mono hM0 hT
    have e5 : (0 : Rat) / T = 0 := by grind
    rw [e5] at this; exact this
  have h4 : ¬ c < x - l * o / T := by grind
  rw [if_neg h4]
  have key : M / (T - v) - M / T = M / T * v / (T - v) := by grind
  by_cases q : c < x
  · rw [if_pos q]
    refine ⟨_, rfl, ?_⟩
    have e1 : (x * T - c * v) / (T - v) = x + (x - c) * v / (T - v) := by grind
    have e2 : G + M / (T - v) = x + M / T * v / (T - v) := by grind
    rw [e1, e2]
    have h5 : x - c ≤ M / T := by grind
    have h6 := Rat.mul_le_mul_of_nonneg_right h5 (Rat.le_of_lt hv)
    have h7 := div_mono h6 hW
    grind
  · rw [if_neg q]
    refine ⟨x, rfl, ?_⟩
    have h6 := Rat.mul_nonneg hMT0 (Rat.le_of_lt hv)
    have h7 := div_mono h6 hW
    have e5 : (0 : Rat) / (T - v) = 0 := by grind
    rw [e5] at h7
    grind
/-! ### places drawn are quarters: front gaps stay small -/
def Quart (p : Rat) : Prop := ∃ k : Int, p = (k : Rat) / 4 ∧ 0 ≤ k ∧ k ≤ 4000
theorem place_q {r : Raft} (hr : r.ok) (s : Bag) : Quart (placeV r s) := by
  have h1 := take_lo s (n := 5) (by omega)
  have h2 := take_hi s (n := 5) (by omega)
  obtain ⟨a, b, _⟩ := hr
  have m1 : 0 ≤ r.lg * takeV s 5 := Int.mul_nonneg (by omega) h1
  have m2 : r.lg * takeV s 5 ≤ r.lg * 4 := Int.mul_le_mul_of_nonneg_left (by omega) (by omega)
  exact ⟨r.lg * takeV s 5, Rat.mkRat_eq_div _ _, m1, by omega⟩
theorem plV_q {r : Raft} (hr : r.ok) (s : Bag) : ∀ n, ∀ p ∈ plV r n s, Quart p
  | 0, p, h => by simp [plV, plR] at h
  | n + 1, p, h => by
    have h : p ∈ plV r n s ++ [placeV r (plR r n s).2] := h
    rcases List.mem_append.mp h with q | q
    · exact plV_q hr s n p q
    · rw [List.mem_singleton.mp q]; exact place_q hr _
theorem mom_q : ∀ {fs : List Man} {ps : List Rat}, (∀ m ∈ fs, m.ok) → (∀ p ∈ ps, Quart p) → ∃ K : Int, mom fs ps = (K : Rat) / 4 ∧ 0 ≤ K ∧ K ≤ 800000 * fs.length
  | [], ps, _, _ => ⟨0, by rw [mom_nil]; grind, by omega, by simp⟩
  | m :: fs, [], _, _ => ⟨0, by show (0 : Rat) = _; grind, by omega, by omega⟩
  | m :: fs, p :: ps, hm, hp => by
    obtain ⟨K, e, h1, h2⟩ := mom_q (fs := fs) (ps := ps) (fun x hx => hm x (by simp [hx])) fun x hx => hp x (by simp [hx])
    obtain ⟨k, e2, h3, h4⟩ := hp p (by simp)
    obtain ⟨a1, a2, _⟩ := hm m (by simp)
    have b1 : 0 ≤ k * m.hv := Int.mul_nonneg h3 (by omega)
    have b2 : k * m.hv ≤ 4000 * 200 := Int.mul_le_mul h4 a2 (by omega) (by omega)
    refine ⟨k * m.hv + K, ?_, by omega, by rw [List.length_cons]; omega⟩
    show p * (m.hv : Rat) + mom fs ps = _
    rw [e, e2, Rat.intCast_add, Rat.intCast_mul]
    grind
theorem front_q {r : Raft} {fs : List Man} {g : Rat} {ps : List Rat} (hr : r.ok) (hm : Men fs) (hg : Sz 12 g) (hp : ∀ p ∈ ps, Quart p) : Sz 36 (front r fs g ps) := by
  obtain ⟨K, e, h1, h2⟩ := mom_q hm.2 hp
  have h7 := hm.1
  have ht := tot_bd hr hm
  have hd : Sz 23 (drv r fs ps) := by
    have hpos : 0 < 4 * tot r fs := by omega
    have e2 : drv r fs ps = mkRat K (4 * tot r fs).toNat := by
      rw [mk_fracK K hpos, Rat.intCast_mul]
      unfold drv
      rw [e]
      have hT : (0 : Rat) < (tot r fs : Rat) := rat_pos_of ht.1
      generalize (tot r fs : Rat) = T at *
      rw [show (((4 : Int)) : Rat) = 4 from rfl]
      grind
    rw [e2]
    exact mk_sz (by omega) (by omega) (by omega)
  exact (hg.add hd).mono (by omega)
/-! ### what is left when somebody has stepped off -/
theorem mom_all {p : Rat} : ∀ {fs : List Man} {qs : List Rat}, fs.length = qs.length → (∀ q ∈ qs, q = p) → mom fs qs = p * (wt fs : Rat)
  | [], [], _, _ => by
    show (0 : Rat) = p * ((0 : Int) : Rat)
    rw [show ((0 : Int) : Rat) = 0 from rfl]; grind
  | m :: fs, q :: qs, hl, h => by
    have ih := mom_all (fs := fs) (qs := qs) (by simpa using hl) fun x hx => h x (by simp [hx])
    show q * (m.hv : Rat) + mom fs qs = _
    rw [ih, wt_cons, Rat.intCast_add, h q (by simp)]; grind
theorem drop_poo {n j : Nat} {p q : Rat} (h : q ∈ dropAt (pooPl n j p) j) : q = p := by
  have hg : ∀ i x, i ≠ j → (pooPl n j p)[i]? = some x → x = p := fun i x hi hx => by
    unfold pooPl at hx
    have hl := lt_get hx
    rw [List.length_map, List.length_range] at hl
    rw [List.getElem?_map, List.getElem?_range hl] at hx
    have hx : (if i = j then (0 : Rat) else p) = x := Option.some.inj hx
    rw [if_neg hi] at hx; exact hx.symm
  unfold dropAt at h
  rcases List.mem_append.mp h with z | z
  · obtain ⟨i, hi⟩ := List.getElem?_of_mem z
    have hl := lt_get hi
    rw [List.length_take] at hl
    rw [List.getElem?_take_of_lt (by omega)] at hi
    exact hg i q (by omega) hi
  · obtain ⟨i, hi⟩ := List.getElem?_of_mem z
    rw [List.getElem?_drop] at hi
    exact hg _ q (by omega) hi
theorem drop_len {α : Type} {l : List α} {j : Nat} (h : j < l.length) : (dropAt l j).length = l.length - 1 := by
  unfold dropAt
  rw [List.length_append, List.length_take, List.length_drop]; omega
theorem drop_stay : ∀ {fs : List Man} {j : Nat} {m : Man}, (fs.map (·.nm)).Nodup → fs[j]? = some m → dropAt fs j = stay fs [m.nm]
  | x :: fs, 0, m, hn, h => by
    have h := Option.some.inj h
    subst h
    rw [drop_z]
    unfold stay
    rw [List.filter_cons, if_neg (by simp), List.filter_eq_self.mpr]
    intro y hy
    have := (nd_tail hn).1 y hy
    simpa using this
  | x :: fs, j + 1, m, hn, h => by
    have h : fs[j]? = some m := h
    have hne := (nd_tail hn).1 m (List.mem_of_getElem? h)
    rw [drop_s, drop_stay (nd_tail hn).2 h]
    unfold stay
    rw [List.filter_cons, if_pos]
    simpa using fun e => hne e.symm
  | [], j, m, _, h => by simp at h
theorem poo_len (n j : Nat) (p : Rat) : (pooPl n j p).length = n := by unfold pooPl; rw [List.length_map, List.length_range]
/-- the front gap of the others, just after -/
theorem front_step {r : Raft} {fs : List Man} {j : Nat} {m : Man} {p G : Rat} (hn : (fs.map (·.nm)).Nodup) (h : fs[j]? = some m) : front r (dropAt fs j) G (dropAt (pooPl fs.length j p) j) = G + p * ((wt fs - m.hv : Int) : Rat) / ((tot r fs - m.hv : Int) : Rat) := by
  have hj := lt_get h
  have hw : wt (dropAt fs j) = wt fs - m.hv := by rw [drop_stay hn h]; exact wt_stay1 hn (List.mem_of_getElem? h)
  have hT : tot r (dropAt fs j) = tot r fs - m.hv := by unfold tot; rw [hw]; omega
  unfold front drv
  rw [mom_all (p := p) (by rw [drop_len hj, drop_len (by rw [poo_len]; exact hj), poo_len]) fun q hq => drop_poo hq, hw, hT]
/-- so a step off told by places leaves the front gap that goes tells -/
theorem step_front {r : Raft} {fs : List Man} {j : Nat} {m : Man} {x p : Rat} (hr : r.ok) (hm : Men fs) (hn : (fs.map (·.nm)).Nodup) (h : fs[j]? = some m) (e : poo r fs x m = some p) :
    goes r fs x m.nm = some (front r (dropAt fs j) (x - drv r fs (pooPl fs.length j p)) (dropAt (pooPl fs.length j p) j)) ∧ x - drv r fs (pooPl fs.length j p) ≤ (m.rc : Rat) := by
  have hmem := List.mem_of_getElem? h
  obtain ⟨h1, h2, _⟩ := poo_step hr hm hmem e
  rw [drv_poo h, front_step hn h]
  refine ⟨?_, h2⟩
  unfold goes
  rw [manOf_at hn hmem, Option.bind_some, h1]
theorem goesM_szK {n : Nat} {r : Raft} {fs : List Man} {x y : Rat} {m : Man} (hr : r.ok) (hm : Men fs) (hmem : m ∈ fs) (hx : Sz n x) (h : goesM r fs x m = some y) : Sz (n + 16) y := by
  have q := fglP_val hr hm hmem (gpq hx).pos
  rw [gp_val, h] at q
  cases e : fglP r fs (gp x) m with
  | none => rw [e] at q; cases q
  | some g =>
    rw [e] at q
    have q : vq g = y := Option.some.inj q
    have k := fglP_ok hr hm hmem (gpq hx) e
    have k0 := k.pos
    rw [← q, vq, ← mk_fracK _ k0]
    exact mk_sz (by omega) k.s1 (by have := k.s2; omega)
/-- where the raft is when somebody steps off so: where it was, or just within reach -/
theorem poo_gap {r : Raft} {fs : List Man} {m : Man} {x p : Rat} (hr : r.ok) (hm : Men fs) (hmem : m ∈ fs) (e : poo r fs x m = some p) :
    (p = 0 ∧ x - p * ((wt fs - m.hv : Int) : Rat) / (tot r fs : Rat) = x) ∨ (p = (x - (m.rc : Rat)) * (tot r fs : Rat) / ((wt fs - m.hv : Int) : Rat) ∧ 1 ≤ wt fs - m.hv ∧ x - p * ((wt fs - m.hv : Int) : Rat) / (tot r fs : Rat) = (m.rc : Rat)) := by
  obtain ⟨h0, h1, h2⟩ := oth_pos hr hm hmem
  have hT : (0 : Rat) < (tot r fs : Rat) := rat_pos_of h2
  unfold poo at e
  by_cases q0 : x - (m.rc : Rat) ≤ 0
  · rw [if_pos q0] at e
    have e := Option.some.inj e
    subst e
    exact .inl ⟨rfl, by grind⟩
  · rw [if_neg q0] at e
    by_cases q1 : wt fs - m.hv = 0
    · rw [if_pos q1] at e; cases e
    · rw [if_neg q1] at e
      have h3 : 1 ≤ wt fs - m.hv := by omega
      have hz : (0 : Rat) < ((wt fs - m.hv : Int) : Rat) := rat_pos_of h3
      split at e
      · have e := Option.some.inj e
        refine .inr ⟨e.symm, h3, ?_⟩
        rw [← e]
        generalize ((wt fs - m.hv : Int) : Rat) = o at *
        generalize (tot r fs : Rat) = T at *
        grind
      · cases e
theorem poo_szK {n : Nat} {r : Raft} {fs : List Man} {m : Man} {x p : Rat} (hr : r.ok) (hm : Men fs) (hmem : m ∈ fs) (hx : Sz n x) (h8 : 8 ≤ n) (e : poo r fs x m = some p) : Sz (n + 40) p ∧ Sz n (x - p * ((wt fs - m.hv : Int) : Rat) / (tot r fs : Rat)) := by
  obtain ⟨a1, a2, a3, a4⟩ := hm.2 m hmem
  have hc : Sz 8 (m.rc : Rat) := Sz.int (n := 8) (by omega) (by omega)
  have ht := tot_bd hr hm
  rcases poo_gap hr hm hmem e with ⟨e1, e2⟩ | ⟨e1, h1, e2⟩
  · rw [e2, e1]
    exact ⟨sz_zero (by omega), hx⟩
  · rw [e2, e1]
    refine ⟨?_, hc.mono h8⟩
    have hw : (wt fs - m.hv).natAbs < 2 ^ 12 := by unfold tot at ht; have := hr.2.2.1; omega
    have htz : Sz 12 (tot r fs : Rat) := Sz.int (n := 12) (by omega) (by omega)
    exact (((hx.sub hc).mul htz).div (by omega) hw (by omega)).mono (by omega)
/-- a plan: places and names, one after another -/
def planL (r : Raft) : List Str → List Man → Rat → List Rat → List Dt
  | [], _, _, _ => []
  | n :: o, fs, g, ps => match ixOf fs n with
    | none => []
    | some j => match fs[j]? with
      | none => []
      | some m => match poo r fs (front r fs g ps) m with
        | none => []
        | some p => .tuple [plD (pooPl fs.length j p), .str n] :: planL r o (dropAt fs j) (front r fs g ps - drv r fs (pooPl fs.length j p)) (dropAt (pooPl fs.length j p) j)
theorem planL_cons {r : Raft} {n : Str} {o : List Str} {fs : List Man} {g : Rat} {ps : List Rat} {j : Nat} {m : Man} {p : Rat} (h1 : ixOf fs n = some j) (h2 : fs[j]? = some m) (h3 : poo r fs (front r fs g ps) m = some p) :
    planL r (n :: o) fs g ps = .tuple [plD (pooPl fs.length j p), .str n] :: planL r o (dropAt fs j) (front r fs g ps - drv r fs (pooPl fs.length j p)) (dropAt (pooPl fs.length j p) j) := by
  rw [planL, h1]
  simp only [h2, h3]
/-- a state of a plan that goes on -/
structure PlS (r : Raft) (k : Nat) (o : List Str) (fs : List Man) (g : Rat) (ps : List Rat) : Prop where
  gd : Good r fs ps
  gs : Sz 350 g
  nd : (nms fs).Nodup
  nm : NmOk fs
  k7 : k ≤ 7
  xz : Sz (40 + 16 * k) (front r fs g ps)
  x0 : 0 ≤ front r fs g ps
  run : (runO r fs (front r fs g ps) o).isSome = true
/-- and its next step -/
theorem PlS.step {r : Raft} {k : Nat} {n : Str} {o : List Str} {fs : List Man} {g : Rat} {ps : List Rat} (h : PlS r k (n :: o) fs g ps) (hk : k + 1 ≤ 7) : ∃ j m p, ixOf fs n = some j ∧ fs[j]? = some m ∧ m.nm = n ∧ poo r fs (front r fs g ps) m = some p ∧ 0 ≤ front r fs g ps - drv r fs (pooPl fs.length j p) ∧ front r fs g ps - drv r fs (pooPl fs.length j p) ≤ (m.rc : Rat) ∧ Good r fs (pooPl fs.length j p) ∧ Sz 350 (front r fs g ps - drv r fs (pooPl fs.length j p)) ∧
    PlS r (k + 1) o (dropAt fs j) (front r fs g ps - drv r fs (pooPl fs.length j p)) (dropAt (pooPl fs.length j p) j) := by
  have hr := h.gd.rf
  have hm := h.gd.mn
  have hn := h.nd
  have hrun := h.run
  have hxz := h.xz
  have hx0 := h.x0
  generalize front r fs g ps = x at *
  have hrun : ((goes r fs x n).bind fun y => runO r (stay fs [n]) y o).isSome = true := hrun
  cases eg : goes r fs x n with
  | none => rw [eg] at hrun; cases hrun
  | some y =>
    rw [eg] at hrun
    have hrun : (runO r (stay fs [n]) y o).isSome = true := hrun
    have eg' := eg
    unfold goes at eg'
    cases em : manOf fs n with
    | none => rw [em] at eg'; cases eg'
    | some m =>
      rw [em, Option.bind_some] at eg'
      obtain ⟨hmem, hnm⟩ := manOf_mem em
      obtain ⟨j, hj⟩ := List.getElem?_of_mem hmem
      have hix : ixOf fs n = some j := by rw [← hnm]; exact isAt_of hn hj
      cases ep : poo r fs x m with
      | none => rw [poo_none_goes hr hm hmem ep] at eg'; cases eg'
      | some p =>
        obtain ⟨hf, hrc⟩ := step_front hr hm hn hj ep
        rw [hnm, eg] at hf
        have hf := Option.some.inj hf
        obtain ⟨_, _, hp0, hpl⟩ := poo_step hr hm hmem ep
        have hsz := poo_szK hr hm hmem hxz (by omega) ep
        rw [← drv_poo hj] at hsz
        have hjl := lt_get hj
        have hgap0 : 0 ≤ x - drv r fs (pooPl fs.length j p) := by
          rw [drv_poo hj]
          rcases poo_gap hr hm hmem ep with ⟨_, e2⟩ | ⟨_, _, e2⟩
          · rw [e2]; exact hx0
          · rw [e2]
            have := (hm.2 m hmem).2.2.1
            exact_mod_cast this
        have hgd' : Good r fs (pooPl fs.length j p) := ⟨hr, hm, (poo_len _ _ _).symm, fun q hq => by
          rcases pooPl_mem hq with rfl | rfl
          · exact sz_zero (by omega)
          · exact hsz.1.mono (by have := h.k7; omega)⟩
        have hds := drop_stay hn hj
        refine ⟨j, m, p, hix, hj, hnm, ep, hgap0, hrc, hgd', hsz.2.mono (by have := h.k7; omega), ?_⟩
        have hy0 : 0 ≤ y := by
          rw [hf, front_step hn hj]
          obtain ⟨a0, a1, a2⟩ := oth_pos hr hm hmem
          have hW : (0 : Rat) < ((tot r fs - m.hv : Int) : Rat) := rat_pos_of a1
          have ho : (0 : Rat) ≤ ((wt fs - m.hv : Int) : Rat) := by exact_mod_cast a0
          have := div_mono (Rat.mul_nonneg hp0 ho) hW
          have e0 : (0 : Rat) / ((tot r fs - m.hv : Int) : Rat) = 0 := by grind
          rw [e0] at this
          grind
        refine ⟨⟨hr, by rw [hds]; exact hm.stay _, by rw [drop_len hjl, drop_len (by rw [poo_len]; exact hjl), poo_len], fun q hq => by rw [drop_poo hq]; exact hsz.1.mono (by have := h.k7; omega)⟩, hsz.2.mono (by have := h.k7; omega), by rw [hds]; exact nd_stay hn _, by rw [hds]; exact fun x hx => h.nm x ((stay_sub _ _).mem hx), hk, ?_, ?_, ?_⟩
        · rw [← hf]; exact (goesM_szK hr hm hmem hxz eg').mono (by omega)
        · rw [← hf]; exact hy0
        · rw [← hf, hds, hnm]; exact hrun
end Rw
/-! Rw7: zip of two of any kind; dicts that change no more, and walks over their keys. -/
namespace Rw
open PySem PySem.Spec PyProof.Rows L2
/-! ### zip of two, lists or tuples -/
def Itz2 (k1 k2 : Bool) (K : PySem.W.Frag) (a b : Addr) : It :=
  ⟨fun i H => ∃ xs ys : List V, SqK k1 K H a xs ∧ SqK k2 K H b ys ∧ i < xs.length ∧ i < ys.length,
   fun i H v H' => ∃ T x y, v = .ref T ∧ H T = none ∧ H' = upd H T (.tup [x, y]) ∧ (∀ xs, SqK k1 K H a xs → xs[i]? = some x) ∧ ∀ ys, SqK k2 K H b ys → ys[i]? = some y,
   fun i H => ∃ xs ys : List V, SqK k1 K H a xs ∧ SqK k2 K H b ys ∧ xs.length = i ∧ ys.length = i⟩
structure Ap2 (z TI TO i1 i2 a b : Addr) : Prop where
  s : ∀ x ∈ [z, TI, TO, i1, i2], x ≠ a ∧ x ≠ b
  z1 : TI ≠ z ∧ TO ≠ z ∧ TI ≠ TO
  z2 : TI ≠ i1 ∧ TI ≠ i2
  z3 : z ≠ i1 ∧ z ≠ i2
  z4 : TO ≠ i1 ∧ TO ≠ i2
  z5 : i1 ≠ i2
theorem Ap2.sep {z TI TO i1 i2 a b : Addr} (D : Ap2 z TI TO i1 i2 a b) : ZipSep2 z TI TO i1 i2 [i1, a] [i2, b] := by
  obtain ⟨s, ⟨h1, h2, h3⟩, ⟨h4, h5⟩, ⟨h7, h8⟩, ⟨k1, k2⟩, k4⟩ := D
  have sz := s z (by simp)
  have sT := s TO (by simp)
  have s1 := s i1 (by simp)
  have s2 := s i2 (by simp)
  constructor <;> first | assumption | simp [*] | skip
  all_goals simp_all [Ne.symm k4]
theorem turn_zip2 {k1 k2 : Bool} {P : Program} {w : World} {K : PySem.W.Frag} {elts : List Expr} {kk : Nat} {tpos : Pos} {a b z TI TO i1 i2 : Addr} (D : Ap2 z TI TO i1 i2 a b) :
    Turn P w K (.Tuple elts kk tpos) (Itz2 k1 k2 K a b) [z, TI, TO, i1, i2] z (fun i h => IsZip h z TI TO .none ∧ IsTupOf2 h TI (.ref i1) (.ref i2) ∧ (∃ x y, IsTupOf2 h TO x y) ∧ ItK k1 h i1 a i ∧ ItK k2 h i2 b i) where
  mem := by simp
  obj := fun i h st d hd => by
    obtain ⟨hz, hI, ⟨x, y, hO⟩, h1, h2⟩ := st
    have e' : d = z ∨ d = TI ∨ d = TO ∨ d = i1 ∨ d = i2 := by simpa using hd
    rcases e' with q | q | q | q | q <;> rw [q]
    · exact ⟨_, hz, fun v q => nomatch q⟩
    · exact ⟨_, hI, fun v q => nomatch q⟩
    · exact ⟨_, hO, fun v q => nomatch q⟩
    · exact itk_obj h1
    · exact itk_obj h2
  keep := fun i h h' st k => by
    obtain ⟨hz, hI, ⟨x, y, hO⟩, h1, h2⟩ := st
    exact ⟨k z (by simp) _ hz, k TI (by simp) _ hI, ⟨x, y, k TO (by simp) _ hO⟩, itk_at h1 fun o q => k i1 (by simp) o q, itk_at h2 fun o q => k i2 (by simp) o q⟩
  item := by
    intro X hP hw hK hc i pins s σ H E I hf st hg
    subst hP hw hK
    obtain ⟨hz, hI, ⟨x0, y0, hO⟩, h1, h2⟩ := st
    obtain ⟨xs, ys, qx, qy, lx, ly⟩ := hg
    obtain ⟨t1, r1, p1, _⟩ := seqk_of I qx
    obtain ⟨t2, r2, p2, _⟩ := seqk_of I qy
    have S := D.sep
    have hh : X.A.in1.handled = none := I.ok.hd hc
    have m1 := D.s i1 (by simp)
    have m2 := D.s i2 (by simp)
    have D1 := draws_k (k := k1) (prog := X.prog) (w := X.w) hh i1 a m1.1.symm t1.toArray
    have D2 := draws_k (k := k2) (prog := X.prog) (w := X.w) hh i2 b m2.2.symm t2.toArray
    have e1 := r1.length
    have e2 := r2.length
    have hzl : z < s.heap.objs.size := Heap.lt_size hz
    refine wpAny_pyNext_zipD2_item S D1 D2 hz hI hO ⟨h1, p1⟩ ⟨h2, p2⟩ (by simp; omega) (by simp; omega) fun x1 x2 h' tk y1 y2 hz' hO' n1 n2 hT hsz hk => ?_
    refine ⟨_, rfl, wpAny_letOwnedTupleGo_zip (s := { s with heap := h', toks := tk }) hz' fun h'' z'' sb => ?_⟩
    have hT2 : h''.get? s.heap.objs.size = some { cls := .type "tuple", data := .seq #[x1, x2] } := (sb.2 _ (Nat.ne_of_gt hzl)).trans hT
    have g1 : xs[i]? = some xs[i] := List.getElem?_eq_getElem lx
    have g2 : ys[i]? = some ys[i] := List.getElem?_eq_getElem ly
    obtain ⟨u1, f1, w1⟩ := r1.get g1
    obtain ⟨u2, f2, w2⟩ := r2.get g2
    have c1 : u1 = x1 := by have y1 : t1[i]? = some x1 := by simpa using y1
                            exact Option.some.inj (f1.symm.trans y1)
    have c2 : u2 = x2 := by have y2 : t2[i]? = some x2 := by simpa using y2
                            exact Option.some.inj (f2.symm.trans y2)
    subst c1 c2
    have new : ObjOk X.prog X.w (upd H s.heap.objs.size (.tup [xs[i], ys[i]])) h'' s.heap.objs.size (.tup [xs[i], ys[i]]) :=
      ⟨by show 2 ≤ sizeLine; decide, [u1, u2], .cons w1 (.cons w2 .nil), ⟨_, hT2, rfl, _, rfl⟩⟩
    have I1 : L2.Inv X pins σ (upd H s.heap.objs.size (.tup [xs[i], ys[i]])) { s with heap := h'', toks := tk } :=
      I.turnedNew (t' := tk) (ch := [z, TI, TO, i1, i2]) (fun d o hb q => (sb.2 d (fun q' => hb (by simp [q']))).trans (hk d o (fun q' => hb (by simp [q'])) (fun q' => hb (by simp [q'])) (fun q' => hb (by simp [q'])) (fun q' => hb (by simp [q'])) q)) hf (Nat.le_refl _) new
    refine ⟨.ref s.heap.objs.size, _, I1, rfl, ⟨_, xs[i], ys[i], rfl, I.hok.fresh (Nat.le_refl _), rfl, fun l hl => by rw [sqk_inj I hl qx]; exact g1, fun l hl => by rw [sqk_inj I hl qy]; exact g2⟩, ⟨z'', ?_, ⟨u1, u2, ?_⟩, ?_, ?_⟩, fun d hd => ?_⟩
    · exact (sb.2 _ D.z1.1).trans (hk _ _ D.z1.1 D.z1.2.2 D.z2.1 D.z2.2 hI)
    · exact (sb.2 _ D.z1.2.1).trans hO'
    · exact itk_at n1.1 fun o q => (sb.2 _ D.z3.1.symm).trans q
    · exact itk_at n2.1 fun o q => (sb.2 _ D.z3.2.symm).trans q
    · have hlt : d < s.heap.objs.size := by
        have e' : d = z ∨ d = TI ∨ d = TO ∨ d = i1 ∨ d = i2 := by simpa using hd
        rcases e' with q | q | q | q | q <;> rw [q]
        · exact hzl
        · exact Heap.lt_size hI
        · exact Heap.lt_size hO
        · obtain ⟨_, k, _⟩ := itk_obj h1; exact Heap.lt_size k
        · obtain ⟨_, k, _⟩ := itk_obj h2; exact Heap.lt_size k
      rw [upd_ne (Nat.ne_of_lt hlt)]
      exact (hf d hd).1
  done := by
    intro X hP hw hK hc i pins s σ H E I hf st hg
    subst hP hw hK
    obtain ⟨hz, hI, ⟨x0, y0, hO⟩, h1, h2⟩ := st
    obtain ⟨xs, ys, qx, qy, lx, ly⟩ := hg
    obtain ⟨t1, r1, p1, _⟩ := seqk_of I qx
    obtain ⟨t2, r2, p2, _⟩ := seqk_of I qy
    have hh : X.A.in1.handled = none := I.ok.hd hc
    have m1 := D.s i1 (by simp)
    have m2 := D.s i2 (by simp)
    have D1 := draws_k (k := k1) (prog := X.prog) (w := X.w) hh i1 a m1.1.symm t1.toArray
    have D2 := draws_k (k := k2) (prog := X.prog) (w := X.w) hh i2 b m2.2.symm t2.toArray
    have e1 := r1.length
    have e2 := r2.length
    refine wpAny_pyNext_zipD2_end D.sep D1 D2 hz hI hO ⟨h1, p1⟩ ⟨h2, p2⟩ (by simp; omega) (by simp; omega) (.inl (by simp; omega)) fun h' tk hk => ⟨rfl, ?_⟩
    exact I.turnedL (t' := tk) (ch := [z, TI, TO, i1, i2]) (fun d o hb q => hk d o (fun q' => hb (by simp [q'])) (fun q' => hb (by simp [q'])) (fun q' => hb (by simp [q'])) (fun q' => hb (by simp [q'])) q) hf
  self := fun A i s Q E st h => wpAny_pyIter_zip st.1 h
def iZip2 (k1 k2 : Bool) (K : PySem.W.Frag) (ta : TA) : TI := fun σ H R => ta σ H fun vs H1 => ∃ a b xs ys, vs = [.ref a, .ref b] ∧ SqK k1 K H1 a xs ∧ SqK k2 K H1 b ys ∧ R (Itz2 k1 k2 K a b) H1
theorem pi_zip2 {k1 k2 : Bool} {X : Cx} {e e2 : Expr} {ta : TA} {p pos tpos : Pos} {elts : List Expr} {kk : Nat} (hg : Gl X "zip") (hm : X.mg "zip" = none) (ha : PA X [e, e2] ta)
    (hs : starEach [e, e2] X.env = (false, eval e X.env) :: starEach [e2] X.env := by rfl) (hpl : (backTo pos (starEach [e2] X.env)).any (·.1) = false := by rfl) :
    PI X (.Tuple elts kk tpos) (.Call (.Name "zip" p) [e, e2] [] pos) (iZip2 k1 k2 X.K ta) := by
  refine ⟨fun pins s σ H R I h => Call_ (ld_blt I hg hm PyProof.Rows.boot_zip (PyProof.Rows.callWith_type1 (thn (ha.run pos pins s σ H _ I h) fun us s1 ⟨vs, H1, I1, r1, q1⟩ => ?_) hs hpl))⟩
  obtain ⟨a, b, xs, ys, rfl, qx, qy, q⟩ := q1
  cases r1 with
  | cons r rr =>
    cases rr with
    | cons r' rr =>
      cases rr
      cases r
      cases r'
      obtain ⟨t1, _, p1, la⟩ := seqk_of I1 qx
      obtain ⟨t2, _, p2, lb⟩ := seqk_of I1 qy
      refine zip_begins2 (begins_k (k := k1) a t1.toArray) (begins_k (k := k2) b t2.toArray) p1 p2 fun h' hz hI hO g1 g2 hsz hk => wpAny_pyIter_zip hz ?_
      have I2 : L2.Inv X pins σ H1 { s1 with heap := h' } := I1.kept (t' := s1.toks) hk
      generalize hn : s1.heap.objs.size = n at la lb hz hI hO g1 g2 hsz ⊢
      refine ⟨n + 4, [n + 4, n + 2, n + 3, n, n + 1], _, _, H1, rfl, I2, turn_zip2 (k1 := k1) (k2 := k2) (a := a) (b := b) ⟨?_, ?_, ?_, ?_, ?_, ?_⟩, ⟨hz, hI, ⟨_, _, hO⟩, itk_0 g1, itk_0 g2⟩, fun d hd => ?_, q⟩
      · intro x hx
        have hx : x = n + 4 ∨ x = n + 2 ∨ x = n + 3 ∨ x = n ∨ x = n + 1 := by simpa using hx
        have hle : n ≤ x := by rcases hx with z | z | z | z | z <;> rw [z] <;> first | exact Nat.le_refl _ | exact Nat.le_add_right _ _
        exact ⟨Nat.ne_of_gt (Nat.lt_of_lt_of_le la hle), Nat.ne_of_gt (Nat.lt_of_lt_of_le lb hle)⟩
      · exact ⟨Nat.ne_of_lt (by omega), Nat.ne_of_lt (by omega), Nat.ne_of_lt (by omega)⟩
      · exact ⟨Nat.ne_of_gt (by omega), Nat.ne_of_gt (by omega)⟩
      · exact ⟨Nat.ne_of_gt (by omega), Nat.ne_of_gt (by omega)⟩
      · exact ⟨Nat.ne_of_gt (by omega), Nat.ne_of_gt (by omega)⟩
      · exact Nat.ne_of_lt (by omega)
      · have hle : n ≤ d := by
          have hd : d = n + 4 ∨ d = n + 2 ∨ d = n + 3 ∨ d = n ∨ d = n + 1 := by simpa using hd
          rcases hd with z | z | z | z | z <;> rw [z] <;> first | exact Nat.le_refl _ | exact Nat.le_add_right _ _
        rw [← hn] at hle
        exact I1.fpOk hle (I1.hok.fresh hle)
section
variable {X : Cx} {env : LE} {μ μ1 : MU} {a b c tg : Expr} {p pos tpos : Pos} {elts : List Expr} {kk : Nat}
theorem it_zipK {k1 k2 : Bool} {ds es : List Dt} (hl : ds.length = es.length) (h : EvA X [a, b] env μ μ1 [.d (seqD k1 ds), .d (seqD k2 es)]) (hg : Gl X "zip") (hm : X.mg "zip" = none)
    (hs : starEach [a, b] X.env = (false, eval a X.env) :: starEach [b] X.env := by rfl) (hpl : (backTo pos (starEach [b] X.env)).any (·.1) = false := by rfl) : Itb X (.Tuple elts kk tpos) (.Call (.Name "zip" p) [a, b] [] pos) env μ μ1 ((ds.zip es).map fun q => .tuple [q.1, q.2]) := .mk fun σ G H A E S R q pins s I =>
  (pi_zip2 (k1 := k1) (k2 := k2) hg hm pA hs hpl).run pins s σ H R I (h.run σ G H A E S _ fun vs G1 H1 A1 e1 m1 S1 r1 => by
    obtain ⟨v, w, rfl, r2, r3⟩ := Rp.two r1
    cases r2 with
    | d r2 => cases r3 with
      | d r3 =>
        obtain ⟨pa, xs, rfl, ha, da⟩ := dp_seq r2
        obtain ⟨pb, ys, rfl, hb, db⟩ := dp_seq r3
        have l1 := dpa_len da
        have l2 := dpa_len db
        refine ⟨pa, pb, xs, ys, rfl, sqk_mono S1.ex ha, sqk_mono S1.ex hb, q _ G1 H1 A1 e1 m1 S1 ⟨fun H => Same G1 H, fun i H v H' => (Itz2 k1 k2 X.K pa pb).yld i H v H' ∧ Same G1 H, ⟨?_, ?_, ?_⟩, fun H z => z, ?_⟩⟩
        · intro i H hi hS
          simp at hi
          exact ⟨xs, ys, sqk_mono hS ha, sqk_mono hS hb, by omega, by omega⟩
        · intro H hS
          refine ⟨xs, ys, sqk_mono hS ha, sqk_mono hS hb, ?_, ?_⟩ <;> simp <;> omega
        · intro i H v H' hi hS y
          exact ⟨y, hS⟩
        · rintro i H v H' d ⟨⟨T, x, y, rfl, hT, rfl, f1, f2⟩, hS⟩ hd
          obtain ⟨⟨d1, d2⟩, hz, rfl⟩ := map_get hd
          obtain ⟨z1, z2⟩ := List.getElem?_zip_eq_some.mp hz
          obtain ⟨v1, k1, k2⟩ := dpa_get da z1
          obtain ⟨v2, k3, k4⟩ := dpa_get db z2
          have y1 := Option.some.inj ((f1 xs (sqk_mono hS ha)).symm.trans k1)
          have y2 := Option.some.inj ((f2 ys (sqk_mono hS hb)).symm.trans k3)
          subst y1 y2
          exact .inr ⟨T, [x, y], [d1, d2], rfl, hT, rfl, .cons k2 (.cons k4 .nil), rfl⟩)
end
/-! ### a dict that changes no more -/
theorem dilO_ok {P : Program} {w : World} {H : Hp} {h : Heap} {a : Addr} {o : Obj} {xs : List (List Key × Addr × Value)} {es : Array DictEntry} {ep : Nat} (h0 : (a == sysModules) = false) (h1 : h.get? a = some o) (h2 : o.ExactDict) (h3 : o.data = .dict es ep) (h4 : es.toList = xs.map (entryOfKey (tupleKind (mixKind P w)))) (h5 : (xs.map (·.1)).Nodup) : ObjOk P w H h a (dilO P w a o xs) := by
  refine ⟨⟨h0, h1, es, ep, h2, h3, h4, h5⟩, ⟨o, h1⟩, fun g1 g2 hg k => ?_⟩
  obtain ⟨q0, g, q⟩ := hg
  exact ⟨q0, k _ g, q⟩
section
variable {K : PySem.W.Frag}
theorem Sit.freezeD {G H : Hp} {A : List Addr} {μ : MU} (S : Sit K G H A μ) {k : Nat} {a : Addr} {c : Cl} {o : HO} (ha : A[k]? = some a) (hm : μ[k]? = some (some c)) : Same G (upd G a o) ∧ Mv G A H (upd G a o) A (upd H a o) ∧ Sit K (upd G a o) (upd H a o) A (μ.set k none) := by
  obtain ⟨ga, _⟩ := S.cl k a c ha hm
  have hs : Same G (upd G a o) := same_new ga
  have hmA : a ∈ A := List.mem_of_getElem? ha
  refine ⟨hs, ⟨⟨[], by rw [List.append_nil], fun a h => absurd h (by simp)⟩, fun b u hb hbA => ?_, fun b hb => ?_, fun b hb => ?_⟩, ⟨fun b x e => ?_, by rw [List.length_set]; exact S.len, S.nd, fun j b hb => ?_, fun j b es hb hd => ?_⟩⟩
  · rw [upd_ne (fun e => by subst e; exact hbA hmA)]; exact hb
  · by_cases e : b = a
    · subst e; rw [upd_same]; intro z; cases z
    · rw [upd_ne e]; exact hb
  · by_cases e : b = a
    · subst e; exact .inr (.inr hmA)
    · rw [upd_ne e] at hb; exact .inl hb
  · by_cases hb : b = a
    · subst hb; rw [upd_same] at e ⊢; exact e
    · rw [upd_ne hb] at e ⊢; exact S.ex _ _ e
  · by_cases e : b = a
    · subst e; rw [upd_same]; intro z; cases z
    · rw [upd_ne e]; exact S.liv j b hb
  · by_cases hj : k = j
    · subst hj
      rw [List.getElem?_set_self (lt_get hm)] at hd
      cases (Option.some.inj hd)
    · rw [List.getElem?_set_ne hj] at hd
      obtain ⟨g1, g2⟩ := S.cl j b es hb hd
      have hne : b ≠ a := fun e => by
        subst e
        exact hj (S.uniq ha hb)
      exact ⟨by rw [upd_ne hne]; exact g1, g2.keep hs fun u hu => by rw [upd_ne hne]; exact hu⟩
end
section
variable {X : Cx} {env : LE} {μ μ0 μ1 μ2 μ3 : MU} {x y z : DE} {a b c e o tg iter : Expr} {es : List Expr} {pos p pos' : Pos} {D : DN} {sts : List Stmt}
/-- a dict of ours is one that changes no more from here on -/
theorem bs_freezeD (i : Nat) {k : Nat} {kvs : List (List Str × Dt)} (hi : env[i]? = some (some (.c k))) (hk : μ[k]? = some (some (Cl.dic X.prog X.w kvs))) (h : Bs X sts (env.set i (some (.z X.prog X.w kvs))) (μ.set k none) D) : Bs X sts env μ D := .mk fun σ G H A E S N q pins s I => by
  obtain ⟨v, hv, rv⟩ := E.2 i _ hi
  cases rv with
  | @c _ a hA =>
    obtain ⟨xs, g, en, hl, hat⟩ := S.dg hA hk
    obtain ⟨h0, ob, es, ep, h1, h2, h3, h4, _, h5⟩ := dg_at I g
    have hok : ObjOk X.prog X.w (upd H a (dilO X.prog X.w a ob xs)) s.heap a (dilO X.prog X.w a ob xs) := dilO_ok h0 h1 h2 h3 h4 h5
    have I2 : L2.Inv X pins σ (upd H a (dilO X.prog X.w a ob xs)) s := d_write (t' := s.toks) (h' := s.heap) I (by rw [hat]; exact True.intro) ⟨rfl, fun _ _ => rfl⟩ ⟨ob, h1⟩ hok
    obtain ⟨e2, m2, S2⟩ := S.freezeD (o := dilO X.prog X.w a ob xs) hA hk
    have E2 := (E.mv e2 m2).set (.z (P := X.prog) (w := X.w) upd_same (en.mono e2) hl) i
    have es : σ.set i (some (.ref a)) = σ := by
      refine List.ext_getElem? fun j => ?_
      by_cases hj : i = j
      · subst hj; rw [List.getElem?_set_self (lt_get hv), hv]
      · rw [List.getElem?_set_ne hj]
    rw [es] at E2
    exact h.run σ _ _ A E2 S2 N (q.mono e2 m2) pins s I2
/-- a dict that is read: of ours, or one that changes no more -/
def DicR (μ : MU) (x : DE) (P : Program) (w : World) (kvs : List (List Str × Dt)) : Prop := (∃ j, x = .c j ∧ μ[j]? = some (some (.dic P w kvs))) ∨ x = .z P w kvs
theorem DicR.dg {G H : Hp} {A : List Addr} {v : V} {kvs : List (List Str × Dt)} (h : DicR μ x X.prog X.w kvs) (S : Sit X.K G H A μ) (r : Rp X.K G A v x) : ∃ a xs, v = .ref a ∧ DG X H a xs ∧ EnOk X.K G xs kvs := by
  rcases h with ⟨j, rfl, hm⟩ | rfl
  · cases r with
    | @c _ a hA =>
      obtain ⟨xs, g, en, _⟩ := S.dg hA hm
      exact ⟨a, xs, rfl, g, en⟩
  · cases r with
    | @z _ _ a o xs _ h1 h2 h3 => exact ⟨a, xs, rfl, ⟨.inr ⟨o, S.ex _ _ h1⟩, h2.keys S.ex, by rw [h2.len]; exact h3⟩, h2⟩
theorem ev_dgetR {kvs : List (List Str × Dt)} {k : List Str} {d : Dt} (hu : X.A.units + 1 < cLine) (ha : Ev X a env μ μ1 x) (hb : Ev X b env μ1 μ2 (.d (.tuple (k.map .str)))) (hm : DicR μ2 x X.prog X.w kvs) (hd : atD kvs k = some d) (hs : NoSl b := by intro _ _; rfl) : Ev X (.Subscript a b pos) env μ μ2 (.d d) := .mk fun σ G H A E S Q q pins s I =>
  (pe_dg hu pu pu hs).run pins s σ H Q I (ha.run σ G H A E S _ fun v G1 H1 A1 e1 p1 S1 r1 => hb.run σ G1 H1 A1 (E.mv e1 p1) S1 _ fun w G2 H2 A2 e2 p2 S2 r2 => by
    obtain ⟨l, xs, rfl, g, en⟩ := hm.dg S2 (r1.mv e2 p2)
    obtain ⟨bb, rfl, _, kb⟩ := strs_tup S2 r2
    obtain ⟨pp, vv, h1, h2, h3⟩ := en.some hd
    exact ⟨l, bb, xs, kyS k, pp, vv, rfl, rfl, g, kb, h1, h2, (q.mono (e1.trans e2) (p1.trans p2)).now S2 (.d h3)⟩)
/-! ### its keys -/
def ItkZ (P : Program) (w : World) (d : Addr) (o : Obj) (xs : List (List Key × Addr × Value)) : It :=
  ⟨fun i H => H d = some (dilO P w d o xs) ∧ i < xs.length, fun i H x H' => H' = H ∧ ∃ y, xs[i]? = some y ∧ x = .ref y.2.1, fun i H => H d = some (dilO P w d o xs) ∧ xs.length ≤ i⟩
theorem turn_keysZ {P : Program} {w : World} {K : PySem.W.Frag} {tg : Expr} {d : Addr} {o : Obj} {es : Array DictEntry} {ep : Nat} {xs : List (List Key × Addr × Value)} (it : Addr) (hod : o.data = .dict es ep) (hsz : es.size = xs.length) : Turn P w K tg (ItkZ P w d o xs) [it] it (fun i h => h.IsKeyIter it d i xs.length ep) where
  mem := by simp
  obj := fun i h st b hb => by
    have e : b = it := by simpa using hb
    subst e
    obtain ⟨oi, e, c, dd⟩ := st
    exact ⟨oi, e, fun v z => by rw [dd] at z; cases z⟩
  keep := fun i h h' st k => st.at fun oi e => k it (by simp) oi e
  item := by
    intro X hP hw hK hc i pins s σ H E I hf st hg
    subst hP hw hK
    obtain ⟨hd, hi⟩ := hg
    obtain ⟨f0, f1, f2, f3, f4, f5⟩ := hf it (by simp)
    obtain ⟨⟨h0, h1, es', ep', h2, h3, h4, h5⟩, _⟩ := (show ObjOk X.prog X.w H s.heap d (dilO X.prog X.w d o xs) from I.hok d _ hd)
    obtain ⟨rfl, rfl⟩ := dict_ep hod h3
    have hen := entry_at h4 i
    rw [List.getElem?_eq_getElem hi] at hen
    refine next_key_item st h1 hod hsz hen fun h' st' sb => ?_
    have I1 : L2.Inv X pins σ H { s with heap := h' } := I.turned (t' := s.toks) (fun b ob hb e => (sb.2 b hb).trans e) f0 f1 f3 f4 f5
    obtain ⟨oi, e, c, dd⟩ := id st'
    exact ⟨_, rfl, go_of (s := { s with heap := h' }) e c dd (by decide) ⟨.ref (xs[i]).2.1, H, I1, rfl, ⟨rfl, xs[i], List.getElem?_eq_getElem hi, rfl⟩, st', fun b hb => (hf b hb).1⟩⟩
  done := by
    intro X hP hw hK hc i pins s σ H E I hf st hg
    subst hP hw hK
    obtain ⟨hd, hi⟩ := hg
    obtain ⟨f0, f1, f2, f3, f4, f5⟩ := hf it (by simp)
    obtain ⟨⟨h0, h1, es', ep', h2, h3, h4, h5⟩, _⟩ := (show ObjOk X.prog X.w H s.heap d (dilO X.prog X.w d o xs) from I.hok d _ hd)
    obtain ⟨rfl, rfl⟩ := dict_ep hod h3
    exact next_key_end (I.ok.hd hc) st h1 hod hsz hi fun h' eb => ⟨rfl, I.turned (t' := s.toks) (fun b ob hb e => eb b ob hb e) f0 f1 f3 f4 f5⟩
  self := fun A i s Q E st h => by
    refine wpAny_pyIter_slot st.typeIs F.slot_dict_keyiterator_iter (wpAny_call_entry F.slot_dict_keyiterator_iter st.typeIs F.entry_dict_keyiterator_iter ?_ (F.args_dict_keyiterator_iter_1 _))
    show wpAny _ _ (ret (.ref it)) _ _ s
    exact wpAny_pure ⟨_, rfl, "dict_keyiterator", _, st.typeIs, F.slot_dict_keyiterator_next.lookup, h⟩
def iKeysZ (X : Cx) (td : TE) : TI := fun σ H R => td σ H fun x H1 => ∃ d o xs, x = .ref d ∧ H1 d = some (dilO X.prog X.w d o xs) ∧ R (ItkZ X.prog X.w d o xs) H1
theorem pi_keysZ {td : TE} (he : PE X e td) : PI X tg e (iKeysZ X td) := by
  refine ⟨fun pins s σ H R I h => ?_⟩
  refine thn (he.run pins s σ H _ I h) fun u s1 ⟨x, H1, I1, rx, d, o, xs, ex, hd, q⟩ => ?_
  subst ex
  obtain rfl : u = Value.ref d := rx
  obtain ⟨⟨h0, h1, es, ep, h2, h3, h4, h5⟩, _⟩ := (show ObjOk X.prog X.w H1 s1.heap d (dilO X.prog X.w d o xs) from I1.hok d _ hd)
  have hsz : es.size = xs.length := size_of_entries h4
  refine iter_keys h0 h1 h2 h3 (pi_one (tk := s1.toks) I1 _ (turn_keysZ _ h3 hsz) ⟨_, Heap.get?_push_size _ rfl, rfl, ?_⟩ q)
  rw [hsz] <;> rfl
theorem EnOk.at_ {K : PySem.W.Frag} {G : Hp} : ∀ {xs : List (List Key × Addr × Value)} {kvs : List (List Str × Dt)} {i : Nat} {y : List Key × Addr × Value} {q : List Str × Dt}, EnOk K G xs kvs → xs[i]? = Option.some y → kvs[i]? = Option.some q → SqT K G y.2.1 (q.1.map V.str)
  | _, _, i, y, q, .nil, h, _ => by simp at h
  | _, _, 0, y, q, .cons a b c t, h, h' => by
    have h := Option.some.inj h
    have h' := Option.some.inj h'
    subst h h'
    exact a
  | _, _, i + 1, y, q, .cons a b c t, h, h' => EnOk.at_ (i := i) t h h'
theorem dpa_str {K : PySem.W.Frag} {G : Hp} : ∀ l : List Str, DpAll K G (l.map V.str) (l.map .str)
  | [] => .nil
  | x :: l => .cons (.str x) (dpa_str l)
theorem it_keys {kvs : List (List Str × Dt)} (h : Ev X iter env μ μ1 (.z X.prog X.w kvs)) : Itb X tg iter env μ μ1 (kvs.map fun q => encK q.1) := .mk fun σ G H A E S R q pins s I =>
  (pi_keysZ pu).run pins s σ H R I (h.run σ G H A E S _ fun v G1 H1 A1 e1 p1 S1 r1 => by
    cases r1 with
    | @z _ _ a o xs _ h1 h2 h3 =>
      have hl := h2.len
      refine ⟨a, o, xs, rfl, S1.ex _ _ h1, q _ G1 H1 A1 e1 p1 S1 ⟨fun H => Same G1 H, fun i H v H' => (ItkZ X.prog X.w a o xs).yld i H v H', ⟨?_, ?_, ?_⟩, fun H z => z, ?_⟩⟩
      · intro i H2 hi hS
        simp at hi
        exact ⟨hS _ _ h1, by omega⟩
      · intro H2 hS
        refine ⟨hS _ _ h1, ?_⟩
        simp; omega
      · intro i H2 v H3 hi hS y
        exact y
      · rintro i H2 v H3 d ⟨rfl, y, hy, rfl⟩ hd
        obtain ⟨q2, hq, rfl⟩ := map_get hd
        exact .inl ⟨rfl, .tup (h2.at_ hy hq) (dpa_str _)⟩)
end
end Rw
/-! Rw4: a thing as a plan, step by step. -/
namespace Rw
open PySem PySem.Spec PyProof.Rows L2
/-- the first one whose name is a thing of any kind -/
def ixE (fs : List Man) (d : Dt) : Option Nat := fs.findIdx? fun m => PyData.eqv (.str m.nm) d
/-- who is left, whatever is asked for -/
def stpV (fs : List Man) (g : Rat) (ps : List Rat) (d : Dt) : Option (List Man × List Rat) := (ixE fs d).bind fun j => (fs[j]?).bind fun m => (ps[j]?).bind fun p => if p = 0 ∧ g ≤ (m.rc : Rat) then some (dropAt fs j, dropAt ps j) else none
def stpD (g : Rat) : Option (List Man × List Rat) → Dt
  | none => .none
  | some q => .tuple [folkD q.1, .tuple [rD g, plD q.2]]
structure StA where
  r : Raft
  fs : List Man
  g : Rat
  ps : List Rat
  d : Dt
theorem ixE_lt {fs : List Man} {d : Dt} {j : Nat} (h : ixE fs d = some j) : j < fs.length := by
  unfold ixE at h
  exact (List.findIdx?_eq_some_iff_getElem.mp h).1

def ratOf : Dt → Rat
  | .tuple [.int a, .int b] => mkRat a b.toNat
  | _ => 0
theorem ratOf_rD (x : Rat) : ratOf (rD x) = x := by
  show mkRat x.num ((x.den : Int)).toNat = x
  rw [Int.toNat_natCast, Rat.mkRat_self]
def ratsOf : Dt → List Rat
  | .tuple xs => xs.map ratOf
  | _ => []
theorem ratsOf_pl (qs : List Rat) : ratsOf (plD qs) = qs := by
  show (qs.map rD).map ratOf = qs
  rw [List.map_map]
  conv => rhs; rw [← List.map_id qs]
  exact List.map_congr_left fun q _ => ratOf_rD q
theorem plsB_is {r : Raft} {n : Nat} {d : Dt} (h : plsB r n d = true) : d = plD (ratsOf d) ∧ (ratsOf d).length = n ∧ ∀ q ∈ ratsOf d, 0 ≤ q ∧ q ≤ (r.lg : Rat) := by
  cases d with
  | tuple xs =>
    have h : (decide ((xs.length : Int) = (n : Int)) && xs.all (plcB r)) = true := h
    rw [Bool.and_eq_true, decide_eq_true_eq, List.all_eq_true] at h
    obtain ⟨h1, h2⟩ := h
    have h3 : ∀ x ∈ xs, ∃ q : Rat, x = rD q ∧ 0 ≤ q ∧ q ≤ (r.lg : Rat) := fun x hx => by
      have h4 := h2 x hx
      have h5 : fracB x = true := by
        unfold plcB at h4
        rw [Bool.and_eq_true] at h4
        exact h4.1
      obtain ⟨q, hq, rfl⟩ := frac_is h5
      rw [plc_rD hq, decide_eq_true_eq] at h4
      exact ⟨q, rfl, hq, h4⟩
    refine ⟨?_, by show (xs.map ratOf).length = n; rw [List.length_map]; omega, fun q hq => ?_⟩
    · show PyData.tuple xs = .tuple ((xs.map ratOf).map rD)
      rw [List.map_map]
      congr 1
      conv => lhs; rw [← List.map_id xs]
      refine List.map_congr_left fun x hx => ?_
      obtain ⟨q, rfl, _⟩ := h3 x hx
      show rD q = rD (ratOf (rD q))
      rw [ratOf_rD]
    · obtain ⟨x, hx, rfl⟩ := List.mem_map.mp (show q ∈ xs.map ratOf from hq)
      obtain ⟨q, rfl, h5⟩ := h3 x hx
      rw [ratOf_rD]; exact h5
  | _ => cases h
theorem nc_pl {qs : List Rat} (h : Nc (plD qs)) : qs.length ≤ 145 ∧ ∀ q ∈ qs, Sz 231 q := by
  have h0 : Nc (.tuple (qs.map rD)) := h
  refine ⟨by have := h0.tup.1; rw [List.length_map] at this; exact this, fun q hq => ?_⟩
  have h1 : Nc (.tuple [.int q.num, .int (q.den : Int)]) := h0.tup.2 _ (List.mem_map.mpr ⟨q, hq, rfl⟩)
  have h2 := h1.tup.2
  have a := (h2 (.int q.num) (by simp)).int
  have b := (h2 (.int (q.den : Int)) (by simp)).int
  rw [natAbs_cast] at b
  exact ⟨a, b⟩
/-- what one step of a plan leaves -/
def leftS (r : Raft) (fs : List Man) (g : Rat) (ps : List Rat) (d : Dt) : Option (Rat × List Man × List Rat) := match d with
  | .tuple [p, n] => if plsB r fs.length p = true ∧ 0 ≤ front r fs g ps - drv r fs (ratsOf p) then (stpV fs (front r fs g ps - drv r fs (ratsOf p)) (ratsOf p) n).map fun q => (front r fs g ps - drv r fs (ratsOf p), q.1, q.2) else none
  | _ => none
theorem leftS_no {r : Raft} {fs : List Man} {g : Rat} {ps : List Rat} {d : Dt} (h : tupB d 2 = false) : leftS r fs g ps d = none := by
  cases d with
  | tuple xs =>
    match xs, h with
    | [], _ => rfl
    | [_], _ => rfl
    | [_, _], h => simp [tupB] at h
    | _ :: _ :: _ :: _, _ => rfl
  | _ => rfl
def leftDt : Option (Rat × List Man × List Rat) → Dt
  | none => .none
  | some q => .tuple [folkD q.2.1, stD q.1 q.2.2]
structure ByO (r : Raft) (fs : List Man) (g : Rat) (ps : List Rat) : Prop where
  gd : Good r fs ps
  gs : Sz (350 + 4000 * (7 - fs.length)) g
  nm : NmOk fs
theorem Men.drop {fs : List Man} (h : Men fs) (j : Nat) : Men (dropAt fs j) := by
  have hs : (dropAt fs j).Sublist fs := by
    have := List.Sublist.append (List.Sublist.refl (fs.take j)) (List.drop_sublist_drop_left fs (show j ≤ j + 1 by omega))
    rw [List.take_append_drop] at this
    exact this
  exact ⟨Nat.le_trans hs.length_le h.1, fun m hm => h.2 m (hs.mem hm)⟩
theorem mem_dropAt {α : Type} {l : List α} {j : Nat} {x : α} (h : x ∈ dropAt l j) : x ∈ l := by
  unfold dropAt at h
  rcases List.mem_append.mp h with z | z
  · exact List.mem_of_mem_take z
  · exact List.mem_of_mem_drop z
theorem stpV_some {fs : List Man} {g : Rat} {ps : List Rat} {d : Dt} {q : List Man × List Rat} (h : stpV fs g ps d = some q) : ∃ j m, ixE fs d = some j ∧ fs[j]? = some m ∧ ps[j]? = some 0 ∧ g ≤ (m.rc : Rat) ∧ q = (dropAt fs j, dropAt ps j) := by
  unfold stpV at h
  cases e1 : ixE fs d with
  | none => rw [e1] at h; cases h
  | some j =>
    rw [e1, Option.bind_some] at h
    cases e2 : fs[j]? with
    | none => rw [e2] at h; cases h
    | some m =>
      rw [e2, Option.bind_some] at h
      cases e3 : ps[j]? with
      | none => rw [e3] at h; cases h
      | some p =>
        rw [e3, Option.bind_some] at h
        split at h
        · rename_i hc
          exact ⟨j, m, rfl, e2, by rw [e3, hc.1], hc.2, (Option.some.inj h).symm⟩
        · cases h
theorem leftS_some {r : Raft} {fs : List Man} {g : Rat} {ps : List Rat} {d : Dt} {q : Rat × List Man × List Rat} (h : leftS r fs g ps d = some q) : ∃ qs n j m, d = .tuple [plD qs, n] ∧ qs.length = fs.length ∧ (∀ q ∈ qs, 0 ≤ q ∧ q ≤ (r.lg : Rat)) ∧ 0 ≤ front r fs g ps - drv r fs qs ∧ ixE fs n = some j ∧ fs[j]? = some m ∧ qs[j]? = some 0 ∧ front r fs g ps - drv r fs qs ≤ (m.rc : Rat) ∧ q = (front r fs g ps - drv r fs qs, dropAt fs j, dropAt qs j) := by
  match d, h with
  | .tuple [p, n], h =>
    simp only [leftS] at h
    split at h
    · rename_i hc
      obtain ⟨h1, h2, h3⟩ := plsB_is hc.1
      cases e : stpV fs (front r fs g ps - drv r fs (ratsOf p)) (ratsOf p) n with
      | none => rw [e] at h; cases h
      | some q' =>
        rw [e] at h
        obtain ⟨j, m, g1, g2, g3, g4, rfl⟩ := stpV_some e
        exact ⟨ratsOf p, n, j, m, by rw [← h1], h2, h3, hc.2, g1, g2, g3, g4, (Option.some.inj h).symm⟩
    · cases h
theorem ByO.step {r : Raft} {fs : List Man} {g : Rat} {ps : List Rat} {d : Dt} {q : Rat × List Man × List Rat} (h : ByO r fs g ps) (hd : Nc d) (e : leftS r fs g ps d = some q) : ByO r q.2.1 q.1 q.2.2 := by
  obtain ⟨qs, n, j, m, rfl, h1, h2, h3, h4, h5, h6, h7, rfl⟩ := leftS_some e
  have hz := (nc_pl (hd.tup.2 (plD qs) (by simp))).2
  have hj := lt_get h5
  have h7' := h.gd.mn.1
  have hl1 := drop_len hj
  have hl2 := drop_len (l := qs) (j := j) (by omega)
  have hx : Sz (350 + 4000 * (7 - fs.length) + 1757) (front r fs g ps) := (front_sz h.gd.rf h.gd.mn h.gs h.gd.sz).mono (by omega)
  have hv : Sz 1756 (drv r fs qs) := (drv_sz h.gd.rf h.gd.mn fun q hq => (hz q hq).mono (show 231 ≤ 240 by omega)).mono (by omega)
  refine ⟨⟨h.gd.rf, h.gd.mn.drop j, by show (dropAt fs j).length = (dropAt qs j).length; omega, fun q hq => (hz q (mem_dropAt hq)).mono (by omega)⟩, (hx.sub hv).mono ?_, fun m hm => h.nm m (mem_dropAt hm)⟩
  show _ ≤ 350 + 4000 * (7 - (dropAt fs j).length)
  omega
/-- whether each step can be gone -/
def byS (r : Raft) : List Man → Rat → List Rat → List Dt → Bool
  | _, _, _, [] => true
  | fs, g, ps, d :: ds => match leftS r fs g ps d with
    | none => false
    | some q => byS r q.2.1 q.1 q.2.2 ds
def byD (r : Raft) (fs : List Man) (g : Rat) (ps : List Rat) (d : Dt) : Dt := match d with
  | .list ds => if byS r fs g ps ds then .int (ds.length : Int) else .none
  | _ => .none
theorem stpV_is {fs : List Man} {g : Rat} {ps : List Rat} {d : Dt} {j : Nat} {m : Man} (h1 : ixE fs d = some j) (h2 : fs[j]? = some m) (h3 : ps[j]? = some 0) (h4 : g ≤ (m.rc : Rat)) : stpV fs g ps d = some (dropAt fs j, dropAt ps j) := by
  unfold stpV
  rw [h1, Option.bind_some, h2, Option.bind_some, h3, Option.bind_some, if_pos ⟨rfl, h4⟩]
theorem leftS_is {r : Raft} {fs : List Man} {g : Rat} {ps qs : List Rat} {n : Dt} {j : Nat} {m : Man} (hl : qs.length = fs.length) (hq : ∀ q ∈ qs, 0 ≤ q ∧ q ≤ (r.lg : Rat)) (h0 : 0 ≤ front r fs g ps - drv r fs qs) (h1 : ixE fs n = some j) (h2 : fs[j]? = some m) (h3 : qs[j]? = some 0) (h4 : front r fs g ps - drv r fs qs ≤ (m.rc : Rat)) :
    leftS r fs g ps (.tuple [plD qs, n]) = some (front r fs g ps - drv r fs qs, dropAt fs j, dropAt qs j) := by
  simp only [leftS]
  rw [ratsOf_pl, if_pos ⟨pls_ok hl hq, h0⟩, stpV_is h1 h2 h3 h4]; rfl
theorem ixE_of {fs : List Man} {n : Str} {j : Nat} (h : ixOf fs n = some j) : ixE fs (.str n) = some j := by
  unfold ixE
  have e : (fun m : Man => PyData.eqv (.str m.nm) (.str n)) = fun m => decide (m.nm = n) := by funext m; rw [eqv_str]
  rw [e]; exact h
/-- the told plan can be gone -/
theorem planL_by {r : Raft} : ∀ {o : List Str} {k : Nat} {fs : List Man} {g : Rat} {ps : List Rat}, k + o.length ≤ 7 → PlS r k o fs g ps → byS r fs g ps (planL r o fs g ps) = true ∧ (planL r o fs g ps).length = o.length
  | [], k, fs, g, ps, _, h => ⟨rfl, rfl⟩
  | n :: o, k, fs, g, ps, hk, h => by
    rw [List.length_cons] at hk
    obtain ⟨j, m, p, h1, h2, h3, h4, h5, h6, h7, h8, h9⟩ := h.step (by omega)
    have hjl := lt_get h2
    rw [planL_cons h1 h2 h4]
    have hpj : (pooPl fs.length j p)[j]? = some 0 := by
      unfold pooPl
      rw [List.getElem?_map, List.getElem?_range hjl]
      show some (if j = j then (0 : Rat) else p) = _
      rw [if_pos rfl]
    obtain ⟨_, _, hp0, hpl⟩ := poo_step h.gd.rf h.gd.mn (List.mem_of_getElem? h2) h4
    have hl0 : (0 : Rat) ≤ (r.lg : Rat) := Rat.le_of_lt (rat_pos_of h.gd.rf.1)
    have hL := leftS_is (n := .str n) (poo_len fs.length j p) (fun q hq => by
      rcases pooPl_mem hq with rfl | rfl
      · exact ⟨Rat.le_refl, hl0⟩
      · exact ⟨hp0, hpl⟩) h5 (ixE_of h1) h2 hpj h6
    obtain ⟨i1, i2⟩ := planL_by (by omega) h9
    refine ⟨?_, by rw [List.length_cons, List.length_cons, i2]⟩
    simp only [byS]
    rw [hL]
    exact i1
/-- and is small enough -/
theorem nice_rD {n k m : Nat} {x : Rat} (h : Sz m x) (hm : m ≤ 230) : Nice n (k + 1) (rD x) := by
  have h1 := pw_up h.1 hm
  have h2 := pw_up h.2 hm
  exact nice_t2 (.int (by omega)) (.int (by omega))
theorem nice_plD {n k m : Nat} {ps : List Rat} (h : ∀ p ∈ ps, Sz m p) (hm : m ≤ 230) (hl : ps.length ≤ 140) : Nice n (k + 2) (plD ps) := nice_tup (by rw [List.length_map]; exact hl) fun x hx => by
  obtain ⟨p, hp, rfl⟩ := List.mem_map.mp hx
  exact nice_rD (h p hp) hm
theorem planL_nice {r : Raft} : ∀ {o : List Str} {k : Nat} {fs : List Man} {g : Rat} {ps : List Rat}, k + o.length ≤ 7 → PlS r k o fs g ps → (∀ n ∈ o, n ∈ allNames) → ∀ d ∈ planL r o fs g ps, Nice 0 3 d
  | [], k, fs, g, ps, _, h, _ => fun d hd => by simp [planL] at hd
  | n :: o, k, fs, g, ps, hk, h, hn => fun d hd => by
    rw [List.length_cons] at hk
    obtain ⟨j, m, p, h1, h2, h3, h4, h5, h6, h7, h8, h9⟩ := h.step (by omega)
    have hjl := lt_get h2
    rw [planL_cons h1 h2 h4] at hd
    rcases List.mem_cons.mp hd with rfl | hd
    · have hsz := (poo_szK h.gd.rf h.gd.mn (List.mem_of_getElem? h2) h.xz (by omega) h4).1
      obtain ⟨a1, a2⟩ := names_asc n (hn n (by simp))
      refine nice_t2 (nice_plD (k := 0) (m := 230) (fun q hq => ?_) (by omega) (by rw [poo_len]; have := h.gd.mn.1; omega)) (nice_s a1 a2)
      rcases pooPl_mem hq with rfl | rfl
      · exact sz_zero (by omega)
      · exact hsz.mono (by omega)
    · exact planL_nice (by omega) h9 (fun n' hn' => hn n' (by simp [hn'])) d hd
theorem abs_so2 (t : Int) : (if t < 0 then -t else t) = (t.natAbs : Int) := by split <;> omega
theorem gcd_div2 {t b : Int} (hb : 0 < b) (h : Nat.gcd t.natAbs b.toNat < 2 ^ 9000) (i : Int) : CDivW i ((Nat.gcd t.natAbs b.toNat : Nat) : Int) := by
  have h1 : 0 < Nat.gcd t.natAbs b.toNat := Nat.gcd_pos_of_pos_right _ (by omega)
  exact wide_div (b := 9000) (by omega) (by rw [Int.natAbs_natCast]; exact h) (by omega) (by omega)
theorem plus_gcd (x y : Rat) : Nat.gcd (x.num * (y.den : Int) + y.num * (x.den : Int)).natAbs ((x.den : Int) * (y.den : Int)).toNat ∣ y.den * y.den := by
  have e : ((x.den : Int) * (y.den : Int)).toNat = x.den * y.den := by rw [← Int.natCast_mul, Int.toNat_natCast]
  rw [e]
  have h1 : ((Nat.gcd (x.num * (y.den : Int) + y.num * (x.den : Int)).natAbs (x.den * y.den) : Nat) : Int) ∣ x.num * (y.den : Int) + y.num * (x.den : Int) := Int.ofNat_dvd_left.mpr (Nat.gcd_dvd_left _ _)
  have h2 : Nat.gcd (x.num * (y.den : Int) + y.num * (x.den : Int)).natAbs (x.den * y.den) ∣ x.den * y.den := Nat.gcd_dvd_right _ _
  generalize Nat.gcd (x.num * (y.den : Int) + y.num * (x.den : Int)).natAbs (x.den * y.den) = G at *
  have h2' : (G : Int) ∣ (x.den : Int) * (y.den : Int) := by rw [← Int.natCast_mul]; exact Int.natCast_dvd_natCast.mpr h2
  have h3 : (G : Int) ∣ x.num * ((y.den * y.den : Nat) : Int) := by
    have h := Int.dvd_sub (Int.dvd_mul_of_dvd_right (b := (y.den : Int)) h1) (Int.dvd_mul_of_dvd_right (b := y.num) h2')
    have e2 : (y.den : Int) * (x.num * (y.den : Int) + y.num * (x.den : Int)) - y.num * ((x.den : Int) * (y.den : Int)) = x.num * ((y.den * y.den : Nat) : Int) := by rw [Int.natCast_mul]; grind
    rw [e2] at h; exact h
  have h4 : G ∣ x.num.natAbs * (y.den * y.den) := by
    have := Int.ofNat_dvd_left.mp h3
    rw [Int.natAbs_mul, Int.natAbs_natCast] at this; exact this
  have h5 : G ∣ x.den * (y.den * y.den) := by
    rw [← Nat.mul_assoc]; exact Nat.dvd_mul_right_of_dvd h2 _
  have h6 := Nat.dvd_gcd h4 h5
  rw [Nat.gcd_mul_right] at h6
  have hr : Nat.gcd x.num.natAbs x.den = 1 := x.reduced
  rw [hr, Nat.one_mul] at h6
  exact h6
theorem wide6 {i j : Int} (h : i.natAbs < 2 ^ 60000) (h' : j.natAbs < 2 ^ 60000) : CMulW i j := wide_mul h h' (by omega) (by omega) (by omega)
theorem Nc.lst {xs : List Dt} (h : Nc (.list xs)) : xs.length ≤ 145 ∧ ∀ x ∈ xs, Nc x := by
  obtain ⟨n, k, h1, h2, h3⟩ := h
  obtain ⟨_, k', rfl, hl, hx⟩ := nice_seqOf (d := .list xs) (b := true) (xs := xs) h3 rfl
  exact ⟨by omega, fun x hx' => ⟨n, k', h1, by omega, hx x hx'⟩⟩
theorem eqv_mk {i j : Int} (hi : 0 ≤ i) (hj : 0 < j) : PyData.eqv (rD (mkRat i j.toNat)) (.tuple [.int i, .int j]) = decide (Nat.gcd i.toNat j.toNat = 1) := by
  obtain ⟨a, rfl⟩ : ∃ a : Nat, i = a := ⟨i.toNat, by omega⟩
  obtain ⟨b, rfl⟩ : ∃ b : Nat, j = b := ⟨j.toNat, by omega⟩
  have hb : b ≠ 0 := by omega
  have hg : 0 < Nat.gcd a b := Nat.gcd_pos_of_pos_right _ (by omega)
  have hn : (mkRat (a : Int) b).num = ((a / Nat.gcd a b : Nat) : Int) := by
    rw [Rat.num_mkRat, if_neg hb]
    simp [Nat.gcd_comm]
  have hd : (mkRat (a : Int) b).den = b / Nat.gcd a b := by
    rw [Rat.den_mkRat, if_neg hb]
    simp [Nat.gcd_comm]
  show PyData.eqv (.tuple [.int (mkRat (a : Int) b).num, .int ((mkRat (a : Int) b).den : Int)]) _ = _
  rw [hn, hd]
  simp only [PyData.eqv, PyData.eqvAll, Bool.and_true]
  by_cases h : Nat.gcd a b = 1
  · rw [Int.toNat_natCast, Int.toNat_natCast, decide_eq_true h, h, Nat.div_one, Nat.div_one]
    simp
  · have h2 : b / Nat.gcd a b < b := Nat.div_lt_self (by omega) (by omega)
    have e1 : (((b / Nat.gcd a b : Nat) : Int) == (b : Int)) = false := beq_eq_false_iff_ne.mpr (by omega)
    rw [e1, Bool.and_false, Int.toNat_natCast, Int.toNat_natCast, decide_eq_false h]
end Rw
/-! Rw6: a thing as a table. -/
namespace Rw
open PySem PySem.Spec PyProof.Rows L2
def isNonD : Dt → Bool
  | .none => true
  | _ => false
def valOf (d : Dt) : Option Rat := if isNonD d then none else some (ratOf d)
theorem valOf_opt (o : Option Rat) : valOf (optD o) = o := by
  cases o with
  | none => rfl
  | some x =>
    show (if isNonD (rD x) = true then none else some (ratOf (rD x))) = _
    rw [ratOf_rD]; rfl
theorem val_is {d : Dt} (h : (isNonD d || fracB d) = true) : d = optD (valOf d) ∧ ∀ x, valOf d = some x → 0 ≤ x := by
  cases e : isNonD d with
  | true =>
    have : d = .none := by cases d <;> first | rfl | cases e
    subst this
    exact ⟨rfl, fun x q => by cases q⟩
  | false =>
    rw [e, Bool.false_or] at h
    obtain ⟨x, hx, rfl⟩ := frac_is h
    have e2 : valOf (rD x) = some x := valOf_opt (some x)
    rw [e2]
    exact ⟨rfl, fun y q => by cases q; exact hx⟩
/-- one row of a table -/
def rowB (lot : List Str) (row : Dt) : Bool := match row with
  | .tuple [k, v] => PyData.eqv k (encK lot) && (isNonD v || fracB v)
  | _ => false
def rowV (row : Dt) : Option Rat := match row with
  | .tuple [_, v] => valOf v
  | _ => none
theorem row_no {lot : List Str} {d : Dt} (h : tupB d 2 = false) : rowB lot d = false := by
  cases d with
  | tuple xs =>
    match xs, h with
    | [], _ => rfl
    | [_], _ => rfl
    | [_, _], h => simp [tupB] at h
    | _ :: _ :: _ :: _, _ => rfl
  | _ => rfl
def gAt : List (List Str) → List Dt → List Str → Option Rat
  | a :: ls, x :: xs, l => if a = l then rowV x else gAt ls xs l
  | _, _, _ => none
theorem gAt_at : ∀ {ls : List (List Str)} {xs : List Dt} {i : Nat} {l : List Str} {x : Dt}, ls.Nodup → ls[i]? = some l → xs[i]? = some x → gAt ls xs l = rowV x
  | a :: ls, y :: xs, 0, l, x, _, h1, h2 => by
    have h1 := Option.some.inj h1
    have h2 := Option.some.inj h2
    subst h1 h2
    simp [gAt]
  | a :: ls, y :: xs, i + 1, l, x, hn, h1, h2 => by
    have h1 : ls[i]? = some l := h1
    have h2 : xs[i]? = some x := h2
    have hne : a ≠ l := fun e => (List.nodup_cons.mp hn).1 (e ▸ List.mem_of_getElem? h1)
    simp only [gAt]
    rw [if_neg hne]
    exact gAt_at (List.nodup_cons.mp hn).2 h1 h2
  | [], _, i, l, x, _, h1, _ => by simp at h1
  | a :: ls, [], i, l, x, _, _, h2 => by simp at h2
/-- by lots -/
def kvG (G : List Str → Option Rat) (ls : List (List Str)) : List (List Str × Dt) := ls.map fun l => (l, optD (G l))
theorem kvG_at {G : List Str → Option Rat} {ls : List (List Str)} {l : List Str} (h : l ∈ ls) : atD (kvG G ls) l = some (optD (G l)) := atD_map (f := fun l => optD (G l)) h
theorem kvG_put {G : List Str → Option Rat} {ls : List (List Str)} {l : List Str} {d : Dt} (h : l ∉ ls) : putD (kvG G ls) l d = kvG G ls ++ [(l, d)] := putD_new (atD_none (f := fun l => optD (G l)) h)
theorem kvG_len (G : List Str → Option Rat) (ls : List (List Str)) : (kvG G ls).length = ls.length := List.length_map ..
theorem kvG_keys (G : List Str → Option Rat) (ls : List (List Str)) : (kvG G ls).map (fun q => encK q.1) = ls.map encK := by unfold kvG; rw [List.map_map]; rfl
def rowsOf : Dt → List Dt
  | .tuple xs => xs
  | _ => []
def tabB (fs : List Man) (d : Dt) : Bool := match d with
  | .tuple xs => decide ((xs.length : Int) = ((lotsL fs).length : Int)) && ((lotsL fs).zip xs).all fun q => rowB q.1 q.2
  | _ => false
def gOf (fs : List Man) (d : Dt) : List Str → Option Rat := gAt (lotsL fs) (rowsOf d)
theorem poD_gp (o : Option Rat) : poD (o.map gp) = optD o := by cases o <;> rfl
theorem gp_map (o : Option Rat) : (o.map gp).map vq = o := by
  cases o with
  | none => rfl
  | some x => show some (vq (gp x)) = _; rw [gp_val]
/-- of a table: the gaps, not below nought, and small -/
theorem tab_g {fs : List Man} {d : Dt} (hd : Nc d) (h : tabB fs d = true) : ∀ l x, gOf fs d l = some x → 0 ≤ x ∧ Sz 231 x := by
  cases d with
  | tuple xs =>
    have h : (decide ((xs.length : Int) = ((lotsL fs).length : Int)) && ((lotsL fs).zip xs).all fun q => rowB q.1 q.2) = true := h
    rw [Bool.and_eq_true, List.all_eq_true] at h
    have hrow := h.2
    have hn := hd.tup.2
    have key : ∀ (ls : List (List Str)) (ys : List Dt), (∀ q ∈ ls.zip ys, rowB q.1 q.2 = true) → (∀ y ∈ ys, Nc y) → ∀ l x, gAt ls ys l = some x → 0 ≤ x ∧ Sz 231 x := by
      intro ls
      induction ls with
      | nil => intro ys _ _ l x e; cases e
      | cons a ls ih =>
        intro ys h1 h2 l x e
        cases ys with
        | nil => cases e
        | cons y ys =>
          simp only [gAt] at e
          split at e
          · have hb := h1 (a, y) (by simp)
            have hy := h2 y (by simp)
            cases ht : tupB y 2 with
            | false => rw [row_no ht] at hb; cases hb
            | true =>
              obtain ⟨zs, rfl, hl⟩ := tup_so ht
              obtain ⟨k, v, rfl⟩ := len2 hl
              have hb : (PyData.eqv k (encK a) && (isNonD v || fracB v)) = true := hb
              rw [Bool.and_eq_true] at hb
              obtain ⟨hv, h0⟩ := val_is hb.2
              have e : valOf v = some x := e
              have hvn : Nc v := hy.tup.2 v (by simp)
              rw [e] at hv
              rw [hv] at hvn
              have h3 := hvn.tup.2
              have a1 := (h3 (.int x.num) (by simp)).int
              have b1 := (h3 (.int (x.den : Int)) (by simp)).int
              rw [natAbs_cast] at b1
              exact ⟨h0 x e, a1, b1⟩
          · exact ih ys (fun q hq => h1 q (by simp [hq])) (fun z hz => h2 z (by simp [hz])) l x e
    exact key (lotsL fs) xs hrow hn
  | _ => cases h
/-! ### what a table shows -/
def withinQ : Option Rat → Option Rat → Bool
  | _, none => true
  | none, some _ => false
  | some g, some a => decide (g ≤ a)
/-- the greatest gap that a table may have for a lot -/
def ggQ (r : Raft) (fs : List Man) (G : List Str → Option Rat) (lot : List Str) : Option Rat := minL (lot.map fun n => (G (lessN lot n)).bind fun y => goes r (stay fs (lessN lot n)) y n)
theorem ggP_val {r : Raft} {fs : List Man} {lot : List Str} {G : List Str → Option Rat} {n : Nat} (hr : r.ok) (hm : Men fs) (hG : ∀ l x, G l = some x → Sz n x) :
    (ggP r fs lot fun l => (G l).map gp).map vq = ggQ r fs G lot ∧ ∀ g, ggP r fs lot (fun l => (G l).map gp) = some g → PqOk (n + 16) g := by
  have hok : ∀ l g, (G l).map gp = some g → PqOk n g := fun l g e => by
    cases q : G l with
    | none => rw [q] at e; cases e
    | some x =>
      rw [q] at e
      have e : gp x = g := Option.some.inj e
      rw [← e]; exact gpq (hG l x q)
  refine ⟨?_, fun g e => ?_⟩
  · show ((lot.map (wayP r fs lot fun l => (G l).map gp)).foldl minP none).map vq = minL _
    rw [foldP_val (fun x hx g e => ?_) (fun g e => by cases e)]
    · unfold minL
      rw [List.map_map]
      congr 1
      refine List.map_congr_left fun nm _ => ?_
      exact way_val (V := G) hr hm (fun g e => (hok _ g e).pos) (gp_map _)
    · obtain ⟨nm, _, rfl⟩ := List.mem_map.mp hx
      exact (way_ok hr hm (fun g' e' => hok _ g' e') e).pos
  · refine foldP_ok (fun x hx g e => ?_) (fun g e => by cases e) e
    obtain ⟨nm, _, rfl⟩ := List.mem_map.mp hx
    exact way_ok hr hm (fun g' e' => hok _ g' e') e
def shownB (r : Raft) (fs : List Man) (x : Rat) (G : List Str → Option Rat) : Bool := withinQ (G []) (some x) && (lotsL fs).all fun l => withinQ (G l) (ggQ r fs G l)
def shL (fs : List Man) (G : List Str → Option Rat) : List (List Str) := (lotsL fs).filter fun l => (G l).isSome
def shD (r : Raft) (fs : List Man) (x : Rat) (d : Dt) : Dt := if tabB fs d && shownB r fs x (gOf fs d) then .list ((shL fs (gOf fs d)).map encK) else .none
/-! ### the told table -/
def bstG (r : Raft) (fs : List Man) (x : Rat) (l : List Str) : Option Rat := bestG r fs x l.length l
theorem bst_gg {r : Raft} {fs : List Man} {x : Rat} {l : List Str} (hn : l.Nodup) (h : l ≠ []) : ggQ r fs (bstG r fs x) l = bstG r fs x l := by
  obtain ⟨k, hk⟩ : ∃ k, l.length = k + 1 := ⟨l.length - 1, by have := List.length_pos_iff.mpr h; omega⟩
  unfold bstG ggQ
  rw [hk]
  show minL _ = minL _
  congr 1
  refine List.map_congr_left fun n hm => ?_
  have : (lessN l n).length = k := by have := lessN_len hn hm; omega
  show ((bestG r fs x (lessN l n).length (lessN l n)).bind _) = _
  rw [this]
theorem within_self (o : Option Rat) : withinQ o o = true := by
  cases o with
  | none => rfl
  | some x => exact decide_eq_true Rat.le_refl
theorem shown_congr {r : Raft} {fs : List Man} {x : Rat} {G G' : List Str → Option Rat} (h : ∀ l ∈ lotsL fs, G l = G' l) : shownB r fs x G = shownB r fs x G' := by
  have hg : ∀ l ∈ lotsL fs, ggQ r fs G l = ggQ r fs G' l := fun l hl => by
    unfold ggQ
    congr 1
    refine List.map_congr_left fun n hn => ?_
    rw [h (lessN l n) (lotsL_mem.mpr (List.filter_sublist.trans (lotsL_mem.mp hl)))]
  unfold shownB
  rw [h [] (lotsL_mem.mpr (List.nil_sublist _))]
  congr 1
  rw [Bool.eq_iff_iff, List.all_eq_true, List.all_eq_true]
  constructor
  · intro z l hl; have := z l hl; rw [h l hl, hg l hl] at this; exact this
  · intro z l hl; rw [h l hl, hg l hl]; exact z l hl
theorem bst_shown {r : Raft} {fs : List Man} {x : Rat} (hn : (nms fs).Nodup) : shownB r fs x (bstG r fs x) = true := by
  unfold shownB
  rw [Bool.and_eq_true, List.all_eq_true]
  refine ⟨within_self (some x), fun l hl => ?_⟩
  by_cases h : l = []
  · subst h; rfl
  · rw [bst_gg ((lotsL_mem.mp hl).nodup hn) h]; exact within_self _
end Rw
/-! Rw7b: plain tuples; dict(..) of a plain tuple of pairs whose keys are tuples of texts. -/
namespace Rw
open PySem PySem.Spec PyProof.Rows L2
theorem list_of {α β : Type} : ∀ {l : List α} {P : Nat → α → β → Prop}, (∀ i a, l[i]? = some a → ∃ b, P i a b) → ∃ bs : List β, bs.length = l.length ∧ ∀ i a, l[i]? = some a → ∃ b, bs[i]? = some b ∧ P i a b
  | [], P, _ => ⟨[], rfl, fun i a h => by simp at h⟩
  | x :: l, P, h => by
    obtain ⟨b, hb⟩ := h 0 x rfl
    obtain ⟨bs, h1, h2⟩ := list_of (l := l) (P := fun i a b => P (i + 1) a b) fun i a e => h (i + 1) a e
    refine ⟨b :: bs, by rw [List.length_cons, List.length_cons, h1], fun i a e => ?_⟩
    cases i with
    | zero =>
      have e : x = a := Option.some.inj e
      subst e
      exact ⟨b, rfl, hb⟩
    | succ i => exact h2 i a e
/-- tuple(list): a plain one -/
def rTupP (X : Cx) : List V → Hp → VK → Prop := fun xs H Q => ∃ p ys, xs = [.ref p] ∧ SqL X.K H p ys ∧ ∀ l o, H l = none → o.dict = none → Q (.ref l) (upd H l (.frz o (.tup ys)))
theorem call_tupP {X : Cx} : CallR X (.type "tuple") (rTupP X) := by
  intro pins s σ H xs us Q I r h
  obtain ⟨p, ys, rfl, hq, q⟩ := h
  obtain ⟨u, rfl, rx⟩ := vals1 r
  cases rx
  obtain ⟨its, r', pl, hz⟩ := I.list hq
  have hlen := r'.length
  refine call_tuple_list pl.isList (fun h' kp => ?_) (by simp only [List.size_toArray] <;> omega)
  have I1 : L2.Inv X pins σ H { s with heap := h' } := I.kept (t' := s.toks) kp
  have I2 : L2.Inv X pins σ (upd H h'.objs.size (.frz { cls := .type "tuple", data := .seq its.toArray } (.tup ys))) { s with heap := h'.push { cls := .type "tuple", data := .seq its.toArray } } :=
    I1.laid (t' := s.toks) (fun b o e => Heap.get?_push_of_some _ e) (Nat.le_refl _) (show ObjOk X.prog X.w _ _ _ (.frz _ (.tup ys)) from ⟨Heap.get?_push_size _ rfl, hz, its, r', IsTup.new _ _⟩)
  exact ⟨.ref h'.objs.size, _, I2, rfl, q _ _ (I1.hok.fresh (Nat.le_refl _)) rfl⟩
section
variable {X : Cx} {env : LE} {μ μ1 μ2 : MU} {x : DE} {a e : Expr} {p pos : Pos}
theorem rc_tupP {ds : List Dt} (h : Dv μ x (.list ds)) : RC X.K (rTupP X) [x] μ μ (.p ds) := fun G H A vs S r Q q => by
  obtain ⟨v, rfl, r1⟩ := Rp.one r
  obtain ⟨pp, xs, rfl, t, dd⟩ := r1.lst S h
  refine ⟨pp, xs, rfl, t, fun l o hl ho => q _ (upd G l _) _ A (same_new (S.ex.free hl)) (Mv.new hl) (S.new hl) (.p upd_same ho (dpa_mono (same_new (S.ex.free hl)) dd))⟩
theorem ev_unp {ds : List Dt} (h : Ev X e env μ μ1 (.p ds)) : Ev X e env μ μ1 (.d (.tuple ds)) := .mk fun σ G H A E S Q q => h.run σ G H A E S Q fun v G1 H1 A1 e1 p1 S1 r1 => by
  cases r1 with
  | @p _ o _ _ h1 h2 h3 => exact q _ G1 H1 A1 e1 p1 S1 (.d (.tup (.inl (.inr ⟨o, h1⟩)) h3))
end
theorem storedAll_nd {K : Type} [DecidableEq K] : ∀ {ps acc : List (K × Addr × Value)}, ((acc ++ ps).map (·.1)).Nodup → storedAllH acc ps = acc ++ ps
  | [], acc, _ => by show acc = acc ++ []; rw [List.append_nil]
  | p :: ps, acc, h => by
    have hn : atKey acc p.1 = none := by
      unfold atKey
      rw [Option.map_eq_none_iff, List.find?_eq_none]
      intro x hx z
      have z : x.1 = p.1 := by simpa using z
      rw [List.map_append, List.nodup_append] at h
      exact h.2.2 x.1 (List.mem_map.mpr ⟨x, hx, rfl⟩) p.1 (by simp) z
    show storedAllH (storedH acc p.1 p.2.1 p.2.2) ps = _
    rw [storedH_new hn]
    have e : acc ++ [(p.1, p.2.1, p.2.2)] ++ ps = acc ++ p :: ps := by rw [List.append_assoc]; rfl
    rw [storedAll_nd (by rw [e]; exact h), e]
/-- the entries of a dict, told pair by pair -/
def EnL (es : List (List Str × Addr × V)) (xs : List (List Key × Addr × Value)) : Prop := xs.length = es.length ∧ ∀ (i : Nat) (q : List Str × Addr × V), es[i]? = some q → ∃ u, xs[i]? = some (kyS q.1, q.2.1, u) ∧ RelV q.2.2 u
def rDictP (X : Cx) : List V → Hp → VK → Prop := fun xs H Q => ∃ p o ys, ∃ es : List (List Str × Addr × V), xs = [.ref p] ∧ H p = some (.frz o (.tup ys)) ∧ o.dict = none ∧ ys.length = es.length ∧ es.length ≤ 1000 ∧ (es.map (·.1)).Nodup ∧
  (∀ (i : Nat) (q : List Str × Addr × V), es[i]? = some q → ∃ T, ys[i]? = some (.ref T) ∧ SqT X.K H T [.ref q.2.1, q.2.2] ∧ SqT X.K H q.2.1 (q.1.map V.str)) ∧ ∀ l xs', H l = none → EnL es xs' → Q (.ref l) (upd H l (dicO X.prog X.w l xs'))
theorem call_dictP {X : Cx} (hc : X.calm = true) (hu : X.A.units + 2 < cLine) : CallR X (.type "dict") (rDictP X) := by
  intro pins s σ H xs us Q I r h
  obtain ⟨p, o, ys, es, rfl, hH, hod, hlen, hl, hnd, hes, q⟩ := h
  obtain ⟨u, rfl, rx⟩ := vals1 r
  cases rx
  obtain ⟨hg, hz, its, rv, ⟨o', hg', hcl, n, hdt⟩⟩ := (show ObjOk X.prog X.w H s.heap p (.frz o (.tup ys)) from I.hok p _ hH)
  rw [hg] at hg'
  cases hg'
  obtain ⟨bs, hbl, hbs⟩ := list_of (l := es) (P := fun i q (b : Addr × List Key × Addr × Value) => its[i]? = some (Value.ref b.1) ∧ s.heap.IsTuple b.1 #[.ref b.2.2.1, b.2.2.2] ∧ b.2.1 = kyS q.1 ∧ b.2.2.1 = q.2.1 ∧ RelV q.2.2 b.2.2.2 ∧ (tupleKind (mixKind X.prog X.w)).is s.heap (kyS q.1) q.2.1) fun i q hq => by
    obtain ⟨T, h1, h2, h3⟩ := hes i q hq
    obtain ⟨w, g1, g2⟩ := rv.get h1
    cases g2
    obtain ⟨ts, rt, pt, _⟩ := I.tuple h2
    obtain ⟨w1, w2, rfl, r1, r2⟩ := vals2 rt
    cases r1
    exact ⟨(T, kyS q.1, q.2.1, w2), g1, pt, rfl, rfl, r2, key_at I (by rw [kyS_kV]; exact h3)⟩
  have hb : ∀ (i : Nat) (b : Addr × List Key × Addr × Value), bs[i]? = some b → ∃ q, es[i]? = some q ∧ its[i]? = some (Value.ref b.1) ∧ s.heap.IsTuple b.1 #[.ref b.2.2.1, b.2.2.2] ∧ b.2.1 = kyS q.1 ∧ b.2.2.1 = q.2.1 ∧ RelV q.2.2 b.2.2.2 ∧ (tupleKind (mixKind X.prog X.w)).is s.heap (kyS q.1) q.2.1 := fun i b hbi => by
    have hil : i < es.length := by have := lt_get hbi; omega
    obtain ⟨b', h1, h2⟩ := hbs i es[i] (List.getElem?_eq_getElem hil)
    rw [hbi] at h1
    cases h1
    exact ⟨es[i], List.getElem?_eq_getElem hil, h2⟩
  have hitl : its.length = bs.length := by have := rv.length; omega
  refine call_dict_pairsH (knd := tupleKind (mixKind X.prog X.w)) (ps := bs.map fun b => (b.2.1, b.2.2.1, b.2.2.2)) (PairArg.tuple p its.toArray (fun i => ((bs[i]?).map (·.1)).getD 0) (bs.map fun b => (Value.ref b.2.2.1, b.2.2.2))) (I.ok.hd hc) (tupleKind_room_in1 (A := X.A.in1) (by show X.A.units + 1 + 1 < cLine; omega)) ⟨⟨o, n, hg, hcl, hod, hdt⟩, ?_, ?_⟩ ⟨?_, ?_⟩ ?_ ?_ fun h' tk dd hk => ?_
  · rw [List.length_map]; simp; omega
  · intro j k v hj
    obtain ⟨b, hbj, e⟩ := map_get hj
    cases e
    obtain ⟨q, _, h1, h2, _⟩ := hb j b hbj
    have e : ((bs[j]?).map (·.1)).getD 0 = b.1 := by rw [hbj]; rfl
    show its.toArray[j]? = some (Value.ref (((bs[j]?).map (·.1)).getD 0)) ∧ PySem.PairAt s.heap (((bs[j]?).map (·.1)).getD 0) _ _
    rw [e]
    exact ⟨by simpa using h1, .inl h2⟩
  · rw [List.length_map, List.length_map]
  · intro i key v hr
    obtain ⟨b, hbj, e⟩ := map_get hr
    cases e
    exact ⟨b.2.1, b.2.2.1, by rw [List.getElem?_map, hbj]; rfl, rfl⟩
  · intro h' hk x hx
    obtain ⟨b, hbm, rfl⟩ := List.mem_map.mp hx
    obtain ⟨i, hi⟩ := List.getElem?_of_mem hbm
    obtain ⟨q, _, _, _, h3, h4, _, h5⟩ := hb i b hi
    show (tupleKind (mixKind X.prog X.w)).is h' b.2.1 b.2.2.1
    rw [h3, h4]
    obtain ⟨ob, items, nn, g1, g2⟩ := h5
    exact ⟨ob, items, nn, hk _ _ (Nat.ne_of_lt (Heap.lt_size g1)) (by simp) g1, g2⟩
  · rw [List.length_map, sizeLine_eq]; omega
  · have hkeys : (bs.map fun b => (b.2.1, b.2.2.1, b.2.2.2)).map (·.1) = (es.map (·.1)).map kyS := by
      refine List.ext_getElem? fun i => ?_
      rw [List.getElem?_map, List.getElem?_map, List.getElem?_map, List.getElem?_map]
      cases e : bs[i]? with
      | none =>
        have : es[i]? = none := List.getElem?_eq_none_iff.mpr (by have := List.getElem?_eq_none_iff.mp e; omega)
        rw [this]; rfl
      | some b =>
        obtain ⟨q, g1, _, _, g3, _⟩ := hb i b e
        rw [g1]
        show some b.2.1 = some (kyS q.1)
        rw [g3]
    have hnd' : ((bs.map fun b => (b.2.1, b.2.2.1, b.2.2.2)).map (·.1)).Nodup := by
      rw [hkeys]
      exact List.pairwise_map.mpr (hnd.imp fun {x y} hxy e => hxy (kyS_inj e))
    rw [storedAll_nd (acc := []) (by rw [List.nil_append]; exact hnd'), List.nil_append] at dd
    have h0 : (s.heap.objs.size == sysModules) = false := beq_eq_false_iff_ne.mpr (Ne.symm (Nat.ne_of_lt I.big))
    have I2 : L2.Inv X pins σ (upd H s.heap.objs.size (dicO X.prog X.w s.heap.objs.size (bs.map fun b => (b.2.1, b.2.2.1, b.2.2.2)))) { s with heap := h', toks := tk } := I.laid (fun b o e => hk b o (by simp) e) (Nat.le_refl _) (dicO_ok h0 dd)
    refine ⟨.ref s.heap.objs.size, _, I2, rfl, q _ _ (I.hok.fresh (Nat.le_refl _)) ⟨by rw [List.length_map]; exact hbl, fun i qq hqq => ?_⟩⟩
    obtain ⟨b, g1, _, _, g3, g4, g5, _⟩ := hbs i qq hqq
    exact ⟨b.2.2.2, by rw [List.getElem?_map, g1]; show some (b.2.1, b.2.2.1, b.2.2.2) = _; rw [g3, g4], g5⟩
theorem EnOk.ofL {K : PySem.W.Frag} {G : Hp} : ∀ {es : List (List Str × Addr × V)} {xs : List (List Key × Addr × Value)} {kvs : List (List Str × Dt)}, EnL es xs → kvs.length = es.length → (∀ (i : Nat) (q : List Str × Addr × V) (k : List Str × Dt), es[i]? = Option.some q → kvs[i]? = Option.some k → q.1 = k.1 ∧ SqT K G q.2.1 (k.1.map V.str) ∧ Dp K G q.2.2 k.2) → EnOk K G xs kvs
  | [], xs, kvs, h, hl, _ => by
    have h1 : xs = [] := List.length_eq_zero_iff.mp h.1
    have h2 : kvs = [] := List.length_eq_zero_iff.mp hl
    subst h1 h2
    exact .nil
  | q :: es, xs, kvs, h, hl, hp => by
    obtain ⟨h1, h2⟩ := h
    obtain ⟨u, g1, g2⟩ := h2 0 q rfl
    cases kvs with
    | nil => simp at hl
    | cons k kvs =>
      cases xs with
      | nil => simp at h1
      | cons x xs =>
        have g1 : x = (kyS q.1, q.2.1, u) := Option.some.inj g1
        subst g1
        obtain ⟨a1, a2, a3⟩ := hp 0 q k rfl rfl
        rw [a1]
        exact .cons a2 g2 a3 (EnOk.ofL (es := es) ⟨by simpa using h1, fun i q' e => h2 (i + 1) q' e⟩ (by simpa using hl) fun i q' k' e e' => hp (i + 1) q' k' e e')
section
variable {X : Cx} {env : LE} {μ μ1 μ2 : MU} {x : DE} {a e : Expr} {p pos : Pos}
def pairsD (kvs : List (List Str × Dt)) : List Dt := kvs.map fun q => .tuple [encK q.1, q.2]
theorem rc_dictP {kvs : List (List Str × Dt)} (hl : kvs.length ≤ 1000) (hnd : (kvs.map (·.1)).Nodup) : RC X.K (rDictP X) [.p (pairsD kvs)] μ (μ ++ [some (.dic X.prog X.w kvs)]) (.c μ.length) := fun G H A vs S r Q q => by
  obtain ⟨v, rfl, r1⟩ := Rp.one r
  cases r1 with
  | @p pp o xs _ h1 h2 h3 =>
    have hxl : xs.length = kvs.length := by have := dpa_len h3; unfold pairsD at this; rw [List.length_map] at this; exact this
    obtain ⟨es, hel, hes⟩ := list_of (l := kvs) (P := fun i k (q : List Str × Addr × V) => q.1 = k.1 ∧ (∃ T, xs[i]? = some (.ref T) ∧ SqT X.K G T [.ref q.2.1, q.2.2]) ∧ SqT X.K G q.2.1 (k.1.map V.str) ∧ Dp X.K G q.2.2 k.2) fun i k hk => by
      obtain ⟨v, g1, g2⟩ := dpa_get h3 (show (pairsD kvs)[i]? = some (.tuple [encK k.1, k.2]) by unfold pairsD; rw [List.getElem?_map, hk]; rfl)
      cases g2 with
      | @tup T zs _ t1 t2 =>
        cases t2 with
        | @cons w1 _ _ _ t3 t4 =>
          cases t4 with
          | @cons w2 _ _ _ t5 t6 =>
            cases t6
            cases t3 with
            | @tup b ws _ t7 t8 =>
              rw [dpa_strs t8] at t7
              exact ⟨(k.1, b, w2), rfl, ⟨T, g1, t1⟩, t7, t5⟩
    have hk : ∀ (i : Nat) (q : List Str × Addr × V), es[i]? = some q → ∃ k, kvs[i]? = some k ∧ q.1 = k.1 ∧ (∃ T, xs[i]? = some (.ref T) ∧ SqT X.K G T [.ref q.2.1, q.2.2]) ∧ SqT X.K G q.2.1 (k.1.map V.str) ∧ Dp X.K G q.2.2 k.2 := fun i q hq => by
      have hil : i < kvs.length := by have := lt_get hq; omega
      obtain ⟨q', g1, g2⟩ := hes i kvs[i] (List.getElem?_eq_getElem hil)
      rw [hq] at g1
      cases g1
      exact ⟨kvs[i], List.getElem?_eq_getElem hil, g2⟩
    have hkeys : es.map (·.1) = kvs.map (·.1) := by
      refine List.ext_getElem? fun i => ?_
      rw [List.getElem?_map, List.getElem?_map]
      cases e : es[i]? with
      | none =>
        have : kvs[i]? = none := List.getElem?_eq_none_iff.mpr (by have := List.getElem?_eq_none_iff.mp e; omega)
        rw [this]; rfl
      | some q =>
        obtain ⟨k, g1, g2, _⟩ := hk i q e
        rw [g1]
        show some q.1 = some k.1
        rw [g2]
    refine ⟨pp, o, xs, es, rfl, S.ex _ _ h1, h2, by omega, by omega, by rw [hkeys]; exact hnd, fun i qq hqq => ?_, fun l xs' hl' hE => ?_⟩
    · obtain ⟨k, g1, g2, ⟨T, g3, g4⟩, g5, _⟩ := hk i qq hqq
      exact ⟨T, g3, sqt_mono S.ex g4, by rw [g2]; exact sqt_mono S.ex g5⟩
    · refine q _ G _ (A ++ [l]) (Same.refl G) (Mv.newC hl') (S.newX hl' ⟨xs', upd_same, EnOk.ofL hE hel.symm fun i qq k e e' => ?_, hl⟩) (.c (by rw [← S.len, List.getElem?_append_right (Nat.le_refl _), Nat.sub_self]; rfl))
      obtain ⟨k', g1, g2, _, g5, g6⟩ := hk i qq e
      rw [e'] at g1
      cases g1
      exact ⟨g2, g5, g6⟩
theorem ev_dictP {kvs : List (List Str × Dt)} (h : Ev X e env μ μ1 (.p (pairsD kvs))) (hl : kvs.length ≤ 1000) (hnd : (kvs.map (·.1)).Nodup) (hc : X.calm = true) (hu : X.A.units + 2 < cLine) (hg : Gl X "dict") (hm : X.mg "dict" = none) (hs : starEach [e] X.env = (false, eval e X.env) :: starEach [] X.env := by rfl) :
    Ev X (.Call (.Name "dict" p) [e] [] pos) env μ (μ1 ++ [some (.dic X.prog X.w kvs)]) (.c μ1.length) := ev_callT (call_dictP hc hu) hg hm (by decide +kernel) (ea_cons h ea_nil hs) (rc_dictP hl hnd) (he := hs)
end
end Rw
/-! Rw7c: drawn ways to walk and step off. -/
namespace Rw
open PySem PySem.Spec PyProof.Rows L2
def drw1 (r : Raft) (b : Bag) : Rat := if takeV (takeB b 5) 2 = 0 then (r.lg : Rat) else placeV r b
def drwB (b : Bag) : Bag := takeB (takeB b 5) 2
theorem drw_pick (r : Raft) (b : Bag) : pickD [rD (r.lg : Rat), rD (placeV r b)] (takeV (takeB b 5) 2) = rD (drw1 r b) := by
  have h0 := take_lo (takeB b 5) (n := 2) (by omega)
  have h1 := take_hi (takeB b 5) (n := 2) (by omega)
  unfold drw1
  have : takeV (takeB b 5) 2 = 0 ∨ takeV (takeB b 5) 2 = 1 := by omega
  rcases this with e | e
  · rw [e, if_pos rfl]; rfl
  · rw [e, if_neg (by decide)]; rfl
theorem drwB_ok {b : Bag} (h : b.ok) : (drwB b).ok := take_ok (by omega) (take_ok (by omega) h)
theorem drw_q {r : Raft} (hr : r.ok) (b : Bag) : Quart (drw1 r b) ∧ 0 ≤ drw1 r b ∧ drw1 r b ≤ (r.lg : Rat) := by
  obtain ⟨a1, a2, _⟩ := id hr
  have hl : (0 : Rat) ≤ (r.lg : Rat) := Rat.le_of_lt (rat_pos_of a1)
  unfold drw1
  split
  · exact ⟨⟨4 * r.lg, by rw [Rat.intCast_mul]; grind, by omega, by omega⟩, hl, Rat.le_refl⟩
  · have := place_ok hr b
    exact ⟨place_q hr b, this.lo, this.hi⟩
/-- drawn places, the j-th one nought -/
def drwZ (r : Raft) (j : Nat) : Nat → Bag → List Rat × Bag
  | 0, b => ([], b)
  | n + 1, b => ((drwZ r j n b).1 ++ [if n = j then 0 else drw1 r (drwZ r j n b).2], drwB (drwZ r j n b).2)
theorem drwZ_len (r : Raft) (j : Nat) : ∀ n b, (drwZ r j n b).1.length = n
  | 0, b => rfl
  | n + 1, b => by show ((drwZ r j n b).1 ++ [_]).length = _; rw [List.length_append, drwZ_len r j n b]; rfl
theorem drwZ_ok (r : Raft) (j : Nat) : ∀ n {b : Bag}, b.ok → (drwZ r j n b).2.ok
  | 0, b, h => h
  | n + 1, b, h => drwB_ok (drwZ_ok r j n h)
theorem quart0 : Quart 0 := ⟨0, by grind, by omega, by omega⟩
theorem drwZ_q {r : Raft} (hr : r.ok) (j : Nat) : ∀ n b, ∀ p ∈ (drwZ r j n b).1, Quart p ∧ 0 ≤ p ∧ p ≤ (r.lg : Rat)
  | 0, b, p, h => by simp [drwZ] at h
  | n + 1, b, p, h => by
    have h : p ∈ (drwZ r j n b).1 ++ [if n = j then 0 else drw1 r (drwZ r j n b).2] := h
    rcases List.mem_append.mp h with h | h
    · exact drwZ_q hr j n b p h
    · have h : p = if n = j then 0 else drw1 r (drwZ r j n b).2 := by simpa using h
      rw [h]
      split
      · exact ⟨quart0, Rat.le_refl, Rat.le_of_lt (rat_pos_of hr.1)⟩
      · exact drw_q hr _
theorem drwZ_at (r : Raft) (j : Nat) : ∀ n b, j < n → (drwZ r j n b).1[j]? = some 0
  | 0, b, h => by omega
  | n + 1, b, h => by
    show ((drwZ r j n b).1 ++ [if n = j then 0 else drw1 r (drwZ r j n b).2])[j]? = _
    by_cases e : j < n
    · rw [List.getElem?_append_left (by rw [drwZ_len]; exact e)]; exact drwZ_at r j n b e
    · have e : j = n := by omega
      subst e
      rw [List.getElem?_append_right (by rw [drwZ_len]; exact Nat.le_refl _), drwZ_len, Nat.sub_self, if_pos rfl]; rfl
theorem quart_sz {p : Rat} (h : Quart p) : Sz 13 p := by
  obtain ⟨k, e, h0, h1⟩ := h
  have : p = mkRat k 4 := by rw [Rat.mkRat_eq_div, e]; rfl
  rw [this]
  exact mk_sz (by omega) (by omega) (by omega)
/-! ### sums -/
theorem mom_dropAt : ∀ {fs : List Man} {ps : List Rat} {j : Nat} {m : Man} {p : Rat}, fs[j]? = some m → ps[j]? = some p → mom (dropAt fs j) (dropAt ps j) = mom fs ps - p * (m.hv : Rat)
  | x :: fs, y :: ps, 0, m, p, h1, h2 => by
    have h1 := Option.some.inj h1
    have h2 := Option.some.inj h2
    subst h1 h2
    rw [drop_z, drop_z]
    show mom fs ps = y * (x.hv : Rat) + mom fs ps - y * (x.hv : Rat)
    grind
  | x :: fs, y :: ps, j + 1, m, p, h1, h2 => by
    have ih := mom_dropAt (fs := fs) (ps := ps) (j := j) h1 h2
    rw [drop_s, drop_s]
    show y * (x.hv : Rat) + mom (dropAt fs j) (dropAt ps j) = y * (x.hv : Rat) + mom fs ps - p * (m.hv : Rat)
    rw [ih]; grind
  | [], _, j, _, _, h1, _ => by simp at h1
  | _ :: _, [], j, _, _, _, h2 => by simp at h2
theorem mom_bds {l : Rat} (hl : 0 ≤ l) : ∀ {fs : List Man} {ps : List Rat}, (∀ m ∈ fs, m.ok) → (∀ p ∈ ps, 0 ≤ p ∧ p ≤ l) → 0 ≤ mom fs ps ∧ mom fs ps ≤ l * (wt fs : Rat)
  | [], ps, _, _ => by
    rw [mom_nil]
    refine ⟨Rat.le_refl, ?_⟩
    show 0 ≤ l * ((0 : Int) : Rat)
    rw [show ((0 : Int) : Rat) = 0 from rfl]; grind
  | m :: fs, [], hm, _ => by
    refine ⟨Rat.le_refl, ?_⟩
    have h := (wt_bd hm).1
    have : (0 : Rat) ≤ (wt (m :: fs) : Rat) := by exact_mod_cast h
    exact Rat.mul_nonneg hl this
  | m :: fs, p :: ps, hm, hp => by
    obtain ⟨h1, h2⟩ := mom_bds hl (fs := fs) (ps := ps) (fun x hx => hm x (by simp [hx])) fun x hx => hp x (by simp [hx])
    obtain ⟨h3, h4⟩ := hp p (by simp)
    have hv : (0 : Rat) ≤ (m.hv : Rat) := Rat.le_of_lt (rat_pos_of (hm m (by simp)).1)
    have h5 := Rat.mul_nonneg h3 hv
    have h6 := Rat.mul_le_mul_of_nonneg_right h4 hv
    show 0 ≤ p * (m.hv : Rat) + mom fs ps ∧ p * (m.hv : Rat) + mom fs ps ≤ _
    rw [wt_cons, Rat.intCast_add]
    constructor <;> grind
/-- the front gap of the others just after, told by the sum -/
theorem front_after {r : Raft} {fs : List Man} {j : Nat} {m : Man} {G : Rat} {qs : List Rat} (h : fs[j]? = some m) (h0 : qs[j]? = some 0) : front r (dropAt fs j) G (dropAt qs j) = G + mom fs qs / ((tot r fs - m.hv : Int) : Rat) := by
  have hw := wt_drop h
  have hT : tot r (dropAt fs j) = tot r fs - m.hv := by unfold tot; rw [hw]; omega
  unfold front drv
  rw [mom_dropAt h h0, hT]
  congr 2
  grind
theorem front_sz_q {n : Nat} {r : Raft} {fs : List Man} {m : Man} {x : Rat} {qs : List Rat} (hr : r.ok) (hm : Men fs) (hmem : m ∈ fs) (hx : Sz n x) (hq : ∀ p ∈ qs, Quart p) : Sz (n + 24) (x - drv r fs qs) ∧ Sz (n + 32) (x - drv r fs qs + mom fs qs / ((tot r fs - m.hv : Int) : Rat)) := by
  obtain ⟨K, e, h1, h2⟩ := mom_q hm.2 hq
  have h7 := hm.1
  have ht := tot_bd hr hm
  obtain ⟨h0, h3, _⟩ := oth_pos hr hm hmem
  obtain ⟨a1, a2, _, _⟩ := hm.2 m hmem
  have hT : (0 : Rat) < (tot r fs : Rat) := rat_pos_of ht.1
  have hW : (0 : Rat) < ((tot r fs - m.hv : Int) : Rat) := rat_pos_of h3
  refine ⟨?_, ?_⟩
  · have hd : Sz 23 (drv r fs qs) := by
      have hpos : 0 < 4 * tot r fs := by omega
      have e2 : drv r fs qs = mkRat K (4 * tot r fs).toNat := by
        rw [mk_fracK K hpos, Rat.intCast_mul]
        unfold drv
        rw [e]
        generalize (tot r fs : Rat) = T at *
        rw [show (((4 : Int)) : Rat) = 4 from rfl]
        grind
      rw [e2]
      exact mk_sz (by omega) (by omega) (by omega)
    exact (hx.sub hd).mono (by omega)
  · have hmul : 0 < tot r fs * (tot r fs - m.hv) := Int.mul_pos (by omega) (by omega)
    have hmul2 : tot r fs * (tot r fs - m.hv) ≤ 2400 * 2400 := Int.mul_le_mul (by omega) (by omega) (by omega) (by omega)
    have hK1 : 0 ≤ K * m.hv := Int.mul_nonneg h1 (by omega)
    have hK2 : K * m.hv ≤ 5600000 * 200 := Int.mul_le_mul (by omega) a2 (by omega) (by omega)
    have hpos : 0 < 4 * (tot r fs * (tot r fs - m.hv)) := by omega
    have hd : Sz 31 (mkRat (K * m.hv) (4 * (tot r fs * (tot r fs - m.hv))).toNat) := mk_sz (by omega) (by omega) (by omega)
    have e2 : x - drv r fs qs + mom fs qs / ((tot r fs - m.hv : Int) : Rat) = x + mkRat (K * m.hv) (4 * (tot r fs * (tot r fs - m.hv))).toNat := by
      rw [mk_fracK _ hpos, Rat.intCast_mul, Rat.intCast_mul, Rat.intCast_mul]
      unfold drv
      rw [e]
      have hTW : ((tot r fs - m.hv : Int) : Rat) = (tot r fs : Rat) - (m.hv : Rat) := Rat.intCast_sub ..
      rw [hTW] at hW ⊢
      generalize (tot r fs : Rat) = T at *
      generalize (m.hv : Rat) = v at *
      rw [show (((4 : Int)) : Rat) = 4 from rfl]
      grind
    rw [e2]
    exact (hx.add hd).mono (by omega)
/-! ### lots -/
theorem filt_sub : ∀ {lot l : List Str}, lot.Sublist l → l.Nodup → l.filter (fun a => decide (a ∈ lot)) = lot
  | _, _, .slnil, _ => rfl
  | lot, x :: l, .cons _ h, hn => by
    have hx : x ∉ lot := fun z => (List.nodup_cons.mp hn).1 (h.subset z)
    rw [List.filter_cons, if_neg (by simpa using hx)]
    exact filt_sub h (List.nodup_cons.mp hn).2
  | x :: lot, _ :: l, .cons_cons _ h, hn => by
    rw [List.filter_cons, if_pos (by simp)]
    congr 1
    rw [← filt_sub h (List.nodup_cons.mp hn).2]
    refine List.filter_congr fun a ha => ?_
    have hne : a ≠ x := fun e => (List.nodup_cons.mp hn).1 (e ▸ ha)
    rw [filt_sub h (List.nodup_cons.mp hn).2, decide_eq_decide, List.mem_cons]
    exact ⟨fun z => z.resolve_left hne, .inr⟩
theorem next_lot {l lot : List Str} {n : Str} (hn : l.Nodup) (hr : Rise l) (hs : lot.Sublist l) (hm : n ∈ l) (hnl : n ∉ lot) : (sortT (lot ++ [n])).Sublist l ∧ lessN (sortT (lot ++ [n])) n = lot ∧ n ∈ sortT (lot ++ [n]) ∧ (sortT (lot ++ [n])).length = lot.length + 1 ∧ ∀ a, a ∈ sortT (lot ++ [n]) ↔ a ∈ lot ++ [n] := by
  have hL : (l.filter fun a => decide (a ∈ lot ++ [n])).Sublist l := List.filter_sublist
  have hnd : (lot ++ [n]).Nodup := by
    rw [List.nodup_append]
    exact ⟨hs.nodup hn, by simp, fun a ha b hb e => by
      have hb : b = n := by simpa using hb
      subst hb; subst e; exact hnl ha⟩
  have hp : (l.filter fun a => decide (a ∈ lot ++ [n])).Perm (lot ++ [n]) := (List.perm_ext_iff_of_nodup (hL.nodup hn) hnd).mpr fun a => by
    rw [List.mem_filter, decide_eq_true_eq]
    refine ⟨fun z => z.2, fun z => ⟨?_, z⟩⟩
    rcases List.mem_append.mp z with q | q
    · exact hs.subset q
    · have q : a = n := by simpa using q
      rw [q]; exact hm
  have e := sortT_uniq hp (hr.sublist hL)
  rw [← e]
  refine ⟨hL, ?_, hp.mem_iff.mpr (by simp), by rw [hp.length_eq]; simp, fun a => hp.mem_iff⟩
  unfold lessN
  rw [List.filter_filter]
  conv => rhs; rw [← filt_sub hs hn]
  refine List.filter_congr fun a ha => ?_
  by_cases e1 : a = n
  · subst e1; simp [hnl]
  · simp [e1]
/-! ### the turns -/
structure TrS where
  lot : List Str
  left : List Man
  g : Rat
  ps : List Rat
  b : Bag
def tryJ (s : TrS) : Nat := (takeV s.b s.left.length).toNat
def tryQ (r : Raft) (s : TrS) (m : Man) : List Rat × Bag := match poo r s.left (front r s.left s.g s.ps) m with
  | none => drwZ r (tryJ s) s.left.length (takeB s.b s.left.length)
  | some p => if takeV (takeB s.b s.left.length) 2 = 0 then drwZ r (tryJ s) s.left.length (takeB (takeB s.b s.left.length) 2) else (pooPl s.left.length (tryJ s) p, takeB (takeB s.b s.left.length) 2)
def tryG (r : Raft) (s : TrS) (qs : List Rat) : Rat := front r s.left s.g s.ps - drv r s.left qs
def tryE (r : Raft) (s : TrS) (m : Man) (q : List Rat × Bag) : TrS := if 0 ≤ tryG r s q.1 then (if tryG r s q.1 ≤ (m.rc : Rat) then ⟨sortT (s.lot ++ [m.nm]), dropAt s.left (tryJ s), tryG r s q.1, dropAt q.1 (tryJ s), q.2⟩ else ⟨s.lot, s.left, tryG r s q.1, q.1, q.2⟩) else ⟨s.lot, s.left, s.g, s.ps, q.2⟩
def tryStep (r : Raft) (s : TrS) : TrS := match s.left[tryJ s]? with
  | none => s
  | some m => tryE r s m (tryQ r s m)
def tryN (r : Raft) : Nat → TrS → TrS
  | 0, s => s
  | n + 1, s => tryStep r (tryN r n s)
structure TrI (t : TabA) (s : TrS) : Prop where
  sub : s.lot.Sublist (nms t.fs)
  lf : s.left = stay t.fs s.lot
  gd : Good t.r s.left s.ps
  pl : ∀ p ∈ s.ps, 0 ≤ p ∧ p ≤ (t.r.lg : Rat)
  gs : Sz 350 s.g
  xz : Sz (36 + 32 * s.lot.length) (front t.r s.left s.g s.ps)
  bst : ∃ v, bestG t.r t.fs t.x s.lot.length s.lot = some v ∧ v ≤ front t.r s.left s.g s.ps
  bo : s.b.ok
structure TrO (t : TabA) : Prop where
  rf : t.r.ok
  mn : Men t.fs
  l6 : t.fs.length ≤ 6
  nd : (nms t.fs).Nodup
  nm : NmOk t.fs
  ri : Rise (nms t.fs)
/-- what is known of the places of a turn -/
structure TrQ (t : TabA) (s : TrS) (j : Nat) (m : Man) (q : List Rat × Bag) : Prop where
  ln : q.1.length = s.left.length
  z : q.1[j]? = some 0
  bd : ∀ p ∈ q.1, 0 ≤ p ∧ p ≤ (t.r.lg : Rat)
  sz : ∀ p ∈ q.1, Sz 240 p
  gz : Sz 350 (tryG t.r s q.1)
  fz : Sz (36 + 32 * (s.lot.length + 1)) (tryG t.r s q.1 + mom s.left q.1 / ((tot t.r s.left - m.hv : Int) : Rat))
  bo : q.2.ok
theorem TrI.len {t : TabA} {s : TrS} (o : TrO t) (h : TrI t s) {m : Man} (hm : m ∈ s.left) : s.lot.length ≤ 5 ∧ m ∈ t.fs ∧ m.nm ∉ s.lot := by
  rw [h.lf] at hm
  obtain ⟨h1, h2⟩ := stay_mem.mp hm
  refine ⟨?_, h1, h2⟩
  have hl := h.sub.length_le
  have hn : (nms t.fs).length = t.fs.length := List.length_map ..
  have h6 := o.l6
  by_cases e : s.lot.length = (nms t.fs).length
  · exact absurd (List.mem_map.mpr ⟨m, h1, rfl⟩) (by rw [show t.fs.map (·.nm) = nms t.fs from rfl, ← h.sub.eq_of_length e]; exact h2)
  · omega
theorem TrI.quart {t : TabA} {s : TrS} (o : TrO t) (h : TrI t s) {j : Nat} {m : Man} (hj : s.left[j]? = some m) {b : Bag} (hb : b.ok) : TrQ t s j m (drwZ t.r j s.left.length b) := by
  have hmem := List.mem_of_getElem? hj
  obtain ⟨h5, _⟩ := h.len o hmem
  have hq := drwZ_q o.rf j s.left.length b
  obtain ⟨z1, z2⟩ := front_sz_q (r := t.r) (m := m) (qs := (drwZ t.r j s.left.length b).1) o.rf h.gd.mn hmem h.xz fun p hp => (hq p hp).1
  exact ⟨drwZ_len .., drwZ_at _ _ _ _ (lt_get hj), fun p hp => (hq p hp).2, fun p hp => (quart_sz (hq p hp).1).mono (by omega), z1.mono (by omega), z2.mono (by omega), drwZ_ok _ _ _ hb⟩
theorem TrI.poo {t : TabA} {s : TrS} (o : TrO t) (h : TrI t s) {j : Nat} {m : Man} (hj : s.left[j]? = some m) {b : Bag} (hb : b.ok) {p : Rat} (e : poo t.r s.left (front t.r s.left s.g s.ps) m = some p) : TrQ t s j m (pooPl s.left.length j p, b) := by
  have hmem := List.mem_of_getElem? hj
  have hjl := lt_get hj
  obtain ⟨h5, _⟩ := h.len o hmem
  obtain ⟨_, _, hp0, hpl⟩ := poo_step o.rf h.gd.mn hmem e
  obtain ⟨z1, z2⟩ := poo_szK o.rf h.gd.mn hmem h.xz (by omega) e
  rw [← drv_poo hj] at z2
  have hz : (pooPl s.left.length j p)[j]? = some 0 := by
    unfold pooPl
    rw [List.getElem?_map, List.getElem?_range hjl]
    show some (if j = j then (0 : Rat) else p) = _
    rw [if_pos rfl]
  have hnd : (s.left.map (·.nm)).Nodup := by rw [h.lf]; exact nd_stay o.nd _
  obtain ⟨hf, _⟩ := step_front o.rf h.gd.mn hnd hj e
  refine ⟨poo_len .., hz, fun q hq => ?_, fun q hq => ?_, z2.mono (by omega), ?_, hb⟩
  · rcases pooPl_mem hq with rfl | rfl
    · exact ⟨Rat.le_refl, Rat.le_of_lt (rat_pos_of o.rf.1)⟩
    · exact ⟨hp0, hpl⟩
  · rcases pooPl_mem hq with rfl | rfl
    · exact sz_zero (by omega)
    · exact z1.mono (by omega)
  · rw [← front_after (r := t.r) hj hz]
    have hg : goesM t.r s.left (front t.r s.left s.g s.ps) m = some (front t.r (dropAt s.left j) (tryG t.r s (pooPl s.left.length j p)) (dropAt (pooPl s.left.length j p) j)) := by
      unfold goes at hf
      rw [manOf_at hnd hmem, Option.bind_some] at hf
      exact hf
    exact (goesM_szK o.rf h.gd.mn hmem h.xz hg).mono (by omega)
/-- a turn by which somebody steps off -/
theorem TrI.off {t : TabA} {s : TrS} (o : TrO t) (h : TrI t s) {j : Nat} {m : Man} (hj : s.left[j]? = some m) {q : List Rat × Bag} (hq : TrQ t s j m q) (h0 : 0 ≤ tryG t.r s q.1) (hc : tryG t.r s q.1 ≤ (m.rc : Rat)) :
    TrI t ⟨sortT (s.lot ++ [m.nm]), dropAt s.left j, tryG t.r s q.1, dropAt q.1 j, q.2⟩ := by
  have hmem := List.mem_of_getElem? hj
  have hjl := lt_get hj
  obtain ⟨h5, hfs, hnl⟩ := h.len o hmem
  have hnm : m.nm ∈ nms t.fs := List.mem_map.mpr ⟨m, hfs, rfl⟩
  obtain ⟨n1, n2, n3, n4, n5⟩ := next_lot o.nd o.ri h.sub hnm hnl
  have hnd : (s.left.map (·.nm)).Nodup := by rw [h.lf]; exact nd_stay o.nd _
  have hfa := front_after (r := t.r) (G := tryG t.r s q.1) hj hq.z
  have hl0 : (0 : Rat) ≤ (t.r.lg : Rat) := Rat.le_of_lt (rat_pos_of o.rf.1)
  have hmd := mom_dropAt hj hq.z
  have hm0 : mom (dropAt s.left j) (dropAt q.1 j) = mom s.left q.1 := by rw [hmd]; grind
  have hbd := mom_bds hl0 (fs := dropAt s.left j) (ps := dropAt q.1 j) (h.gd.mn.drop j).2 fun p hp => hq.bd p (mem_dropAt hp)
  rw [hm0, wt_drop hj] at hbd
  have hst : dropAt s.left j = stay t.fs (sortT (s.lot ++ [m.nm])) := by
    rw [drop_stay hnd hj, h.lf, stay_stay]
    exact stay_congr fun a => (n5 a).symm
  refine ⟨n1, hst, ⟨o.rf, h.gd.mn.drop j, ?_, fun p hp => hq.sz p (mem_dropAt hp)⟩, fun p hp => hq.bd p (mem_dropAt hp), hq.gz, ?_, ?_, hq.bo⟩
  · show (dropAt s.left j).length = (dropAt q.1 j).length
    rw [drop_len hjl, drop_len (by rw [hq.ln]; exact hjl), hq.ln]
  · show Sz (36 + 32 * (sortT (s.lot ++ [m.nm])).length) (front t.r (dropAt s.left j) (tryG t.r s q.1) (dropAt q.1 j))
    rw [n4, hfa]; exact hq.fz
  · obtain ⟨v, hv1, hv2⟩ := h.bst
    obtain ⟨y, hy1, hy2⟩ := step_ge (r := t.r) (fs := s.left) (m := m) (x := front t.r s.left s.g s.ps) (G := tryG t.r s q.1) (M := mom s.left q.1) o.rf h.gd.mn hmem hbd.1 hbd.2 rfl hc
    have hgo : goes t.r s.left (front t.r s.left s.g s.ps) m.nm = some y := by
      unfold goes
      rw [manOf_at hnd hmem, Option.bind_some, hy1]
    obtain ⟨y', hy3, hy4⟩ := goes_mono o.rf h.gd.mn hv2 hgo
    show ∃ v, bestG t.r t.fs t.x (sortT (s.lot ++ [m.nm])).length (sortT (s.lot ++ [m.nm])) = some v ∧ v ≤ front t.r (dropAt s.left j) (tryG t.r s q.1) (dropAt q.1 j)
    rw [n4, hfa]
    have : some y' ∈ (sortT (s.lot ++ [m.nm])).map fun n => (bestG t.r t.fs t.x s.lot.length (lessN (sortT (s.lot ++ [m.nm])) n)).bind fun y => goes t.r (stay t.fs (lessN (sortT (s.lot ++ [m.nm])) n)) y n := List.mem_map.mpr ⟨m.nm, n3, by rw [n2, hv1, Option.bind_some, ← h.lf]; exact hy3⟩
    obtain ⟨u, hu1, hu2⟩ := minL_le this
    exact ⟨u, hu1, Rat.le_trans hu2 (Rat.le_trans hy4 hy2)⟩
/-- a turn by which all only walk -/
theorem TrI.walk {t : TabA} {s : TrS} (h : TrI t s) {j : Nat} {m : Man} {q : List Rat × Bag} (hq : TrQ t s j m q) : TrI t ⟨s.lot, s.left, tryG t.r s q.1, q.1, q.2⟩ := by
  have e : front t.r s.left (tryG t.r s q.1) q.1 = front t.r s.left s.g s.ps := by
    show tryG t.r s q.1 + drv t.r s.left q.1 = _
    unfold tryG; grind
  exact ⟨h.sub, h.lf, ⟨h.gd.rf, h.gd.mn, hq.ln.symm, hq.sz⟩, hq.bd, hq.gz, by show Sz _ (front t.r s.left (tryG t.r s q.1) q.1); rw [e]; exact h.xz, by show ∃ v, _ ∧ v ≤ front t.r s.left (tryG t.r s q.1) q.1; rw [e]; exact h.bst, hq.bo⟩
theorem TrI.rest {t : TabA} {s : TrS} (h : TrI t s) {b : Bag} (hb : b.ok) : TrI t ⟨s.lot, s.left, s.g, s.ps, b⟩ := ⟨h.sub, h.lf, h.gd, h.pl, h.gs, h.xz, h.bst, hb⟩
theorem tryJ_lt {s : TrS} (h : s.left ≠ []) : tryJ s < s.left.length := by
  have h0 := List.length_pos_iff.mpr h
  have h1 := take_lo s.b (n := (s.left.length : Int)) (by omega)
  have h2 := take_hi s.b (n := (s.left.length : Int)) (by omega)
  unfold tryJ; omega
theorem TrI.qs {t : TabA} {s : TrS} (o : TrO t) (h : TrI t s) {m : Man} (hj : s.left[tryJ s]? = some m) : TrQ t s (tryJ s) m (tryQ t.r s m) := by
  have hb1 : (takeB s.b s.left.length).ok := take_ok (by have := lt_get hj; omega) h.bo
  have hb2 : (takeB (takeB s.b s.left.length) 2).ok := take_ok (by omega) hb1
  unfold tryQ
  cases e : Rw.poo t.r s.left (front t.r s.left s.g s.ps) m with
  | none => exact h.quart o hj hb1
  | some p =>
    show TrQ t s (tryJ s) m (if _ then _ else _)
    split
    · exact h.quart o hj hb2
    · exact h.poo o hj hb2 e
theorem TrI.ends {t : TabA} {s : TrS} (o : TrO t) (h : TrI t s) {m : Man} (hj : s.left[tryJ s]? = some m) {q : List Rat × Bag} (hq : TrQ t s (tryJ s) m q) : TrI t (tryE t.r s m q) := by
  unfold tryE
  split
  · split
    · exact h.off o hj hq (by assumption) (by assumption)
    · exact h.walk hq
  · exact h.rest hq.bo
theorem TrI.step {t : TabA} {s : TrS} (o : TrO t) (h : TrI t s) : TrI t (tryStep t.r s) := by
  unfold tryStep
  cases e : s.left[tryJ s]? with
  | none => exact h
  | some m => exact h.ends o e (h.qs o e)
theorem TrI.all {t : TabA} {s : TrS} (o : TrO t) (h : TrI t s) : ∀ n, TrI t (tryN t.r n s)
  | 0 => h
  | n + 1 => (TrI.all o h n).step o
def TabA.rows (t : TabA) (ls : List (List Str)) : List Dt := ls.map fun l => .tuple [encK l, optD (bestG t.r t.fs t.x l.length l)]
theorem bestG_sz {n : Nat} {r : Raft} {fs : List Man} {x v : Rat} {k : Nat} {lot : List Str} (hr : r.ok) (hm : Men fs) (hx : Sz n x) (h : bestG r fs x k lot = some v) : Sz (n + 16 * k) v := by
  have q := FP_val hr hm (gpq hx) k lot
  rw [gp_val, h] at q
  cases e : FP r fs (gp x) k lot with
  | none => rw [e] at q; cases q
  | some g =>
    rw [e] at q
    have q : vq g = v := Option.some.inj q
    have ho := FP_ok hr hm (gpq hx) e
    have k0 := ho.pos
    rw [← q, vq, ← mk_fracK _ k0]
    exact mk_sz (by omega) ho.s1 (by have := ho.s2; omega)
theorem TabO.low {t : TabA} (h : TabO t) {l : List Str} {g : PQ} (hl : l.length ≤ 7) (e : FP t.r t.fs (gp t.x) l.length l = some g) : PqOk 1700 g ∧ bestG t.r t.fs t.x l.length l = some (mkRat g.1 g.2.toNat) := by
  have ho := FP_ok h.gd.rf h.gd.mn (gpq h.fz) e
  refine ⟨ho.mono (by omega), ?_⟩
  have hb := h.best l
  rw [e] at hb
  rw [← hb, mk_fracK _ ho.pos]; rfl
end Rw
/-! Rw5b: a list of ours walked by a comprehension; xs.pop(), xs.pop(i). -/
namespace Rw
open PySem PySem.Spec PyProof.Rows L2
section
variable {X : Cx} {env env1 : LE} {μ μ1 μ2 μ3 : MU} {x y z : DE} {a b c e o tg iter : Expr} {es : List Expr} {pos p pos' ap : Pos} {D : DN} {rest body sa sb : List Stmt} {st : Stmt}
theorem walk_cell {K : PySem.W.Frag} {a : Addr} {n : Nat} : L2.Walk (Itl K a) n (fun H => ∃ xs, SqL K H a xs ∧ xs.length = n) (fun i H v H' => H' = H ∧ ∀ xs, SqL K H a xs → xs[i]? = some v) :=
  ⟨fun i _ hi ⟨xs, q, hl⟩ => ⟨xs, xs[i]'(by omega), q, List.getElem?_eq_getElem _⟩, fun _ ⟨xs, q, hl⟩ => ⟨xs, q, by omega⟩, fun _ _ _ _ _ _ y => y⟩
theorem lc_readM {ds : List Dt} {elt : Expr} {ifs : List Expr} {sc : Scope} {vs : List Nat} {k0 : Nat} (J : Nat → MU → List Dt → Prop) (hi : Ev X iter env μ μ1 (.c k0)) (hJ : ∀ i m acc, J i m acc → m[k0]? = some (some (Cl.lst ds))) (h0 : J 0 μ1 [])
    (hs : ∀ i d μ acc, ds[i]? = some d → J i μ acc → ∃ env' ks b μ2, (∀ k ∈ ks, k ∈ vs) ∧ InB X sc (fun Y => Tg Y tg (.d d) (wipeE env vs) μ env' ks) ∧ InB X sc (fun Y => EvTs Y ifs env' μ μ2 b) ∧
      (b = true → ∃ y μ3, InB X sc (fun Y => Ev Y elt env' μ2 μ3 (.d y)) ∧ acc.length < sizeLine ∧ J (i + 1) μ3 (acc ++ [y])) ∧ (b = false → J (i + 1) μ2 acc))
    : ∀ σ G H A, InE X.K G A σ env → Sit X.K G H A μ → ∀ Q : VK, (∀ Dd G2 H2 A2 μ2 acc, J ds.length μ2 acc → LcEnd X.K G H A Dd G2 H2 A2 μ2 acc → Q (.ref Dd) H2) →
      tLc (uI X tg iter) (gB X sc tg) (tB' X sc ifs) (eB X sc elt) vs σ H Q := fun σ G H A E S Q q => by
  refine fun pins s I => (pi_list (X := X) (tg := tg) pu).run pins s σ H _ I (hi.run σ G H A E S _ fun v0 G1 H1 A1 e1 m1 S1 r1 => ?_)
  cases r1 with
  | @c _ al hA0 =>
    obtain ⟨_, xs0, hx0, _⟩ := S1.cell k0 al ds hA0 (hJ 0 μ1 [] h0)
    refine ⟨al, rfl, ⟨xs0, .inl (.inl hx0)⟩, fun D hD => ?_⟩
    have hDA : D ∉ A1 := fun z => by
      obtain ⟨k, hk⟩ := List.getElem?_of_mem z
      exact S1.liv k D hk hD
    have gD : G1 D = none := S1.ex.free hD
    let Pv : Nat → Hp → Prop := fun i H2 => ∃ μ2 acc av G2 A2, J i μ2 acc ∧ Same G1 G2 ∧ Mv G1 A1 H1 G2 A2 H2 ∧ Sit X.K G2 H2 A2 μ2 ∧ D ∉ A2 ∧ G2 D = none ∧ H2 D = some (.lst av) ∧ DpAll X.K G2 av acc
    refine lc_it (walk_cell (K := X.K) (a := al) (n := ds.length)) (g := gB X sc tg) (tt := tB' X sc ifs) (te := eB X sc elt) (vs := vs) (σ := σ) (Qd := fun H => Q (.ref D) H) Pv ⟨μ1, [], [], G1, A1, h0, Same.refl _, (Mv.refl G1 A1 H1).side hD, S1.side hDA gD, hDA, gD, upd_same, .nil⟩ ?_ ?_ ?_
    · rintro i H2 _ ⟨μ2, acc, av, G2, A2, j2, e2, m2, S2, _⟩
      obtain ⟨_, xs2, hx2, d2⟩ := S2.cell k0 al ds (m2.Pre.get hA0) (hJ i μ2 acc j2)
      exact ⟨xs2, .inl (.inl hx2), dpa_len d2⟩
    · rintro i v H2 H3 hi2 ⟨μ2, acc, av, G2, A2, i2, e2, m2, S2, nA, nG, hH, dd⟩ ⟨rfl, hyy⟩
      have hdi : ds[i]? = some ds[i] := List.getElem?_eq_getElem hi2
      obtain ⟨_, xs2, hx2, d2⟩ := S2.cell k0 al ds (m2.Pre.get hA0) (hJ i μ2 acc i2)
      obtain ⟨v', hv1, hv2⟩ := dpa_get d2 hdi
      have hvv := hyy xs2 (.inl (.inl hx2))
      rw [hv1] at hvv
      have hvv := Option.some.inj hvv
      subst hvv
      obtain ⟨env', ks, b, μ3, hk, ht, hb, hy, hn⟩ := hs i _ μ2 acc hdi i2
      have stay : ∀ {Ga Ha Aa Gb Hb Ab}, Mv Ga Aa Ha Gb Ab Hb → D ∉ Aa → Ga D = none → Ha D = some (.lst av) → D ∉ Ab ∧ Gb D = none ∧ Hb D = some (.lst av) := fun {Ga Ha Aa Gb Hb Ab} m n g h => by
        refine ⟨fun z => ?_, ?_, m.kp D _ h n⟩
        · obtain ⟨B, e, f⟩ := m.pre
          rw [e] at z
          rcases List.mem_append.mp z with z | z
          · exact n z
          · rw [f D z] at h; cases h
        · cases gz : Gb D with
          | none => rfl
          | some o =>
            rcases m.gr D (by rw [gz]; intro w; cases w) with z | z | z
            · exact absurd g z
            · rw [z] at h; cases h
            · exact absurd z n
      intro s0 H0 C cl fp
      have E3 : InE X.K G2 A2 (L2.wipe σ vs) (wipeE env vs) := ((E.mv e1 m1).mv e2 m2).wipe vs
      refine (ht s0 H0 C cl fp).run _ G2 _ A2 v' E3 S2 (.d hv2) _ fun σ4 b4 E4 => ⟨wipe_but b4 hk, fun s0 H0 C cl fp => ?_⟩
      refine (hb s0 H0 C cl fp).run σ4 G2 _ A2 E4 S2 _ fun G5 H5 A5 e5 m5 S5 => ?_
      obtain ⟨n5, g5, h5⟩ := stay m5 nA nG hH
      have dd5 := dpa_mono e5 dd
      cases b with
      | false => exact ⟨μ3, acc, av, G5, A5, hn rfl, e2.trans e5, m2.trans m5, S5, n5, g5, h5, dd5⟩
      | true =>
        obtain ⟨yd, μ4, hy, hl, j4⟩ := hy rfl
        intro s0 H0 C cl fp
        refine (hy s0 H0 C cl fp).run σ4 G5 H5 A5 (E4.mv e5 m5) S5 _ fun w G6 H6 A6 e6 m6 S6 r6 => ?_
        obtain ⟨n6, g6, h6⟩ := stay m6 n5 g5 h5
        refine ⟨av, h6, by rw [dpa_len dd]; exact hl, μ4, acc ++ [yd], av ++ [w], G6, A6, j4, (e2.trans e5).trans e6, ((m2.trans m5).trans m6).side hD, S6.side n6 g6, n6, g6, upd_same, ?_⟩
        cases r6 with
        | d r6 => exact dpa_app (dpa_mono e6 dd5) (.cons r6 .nil)
    · rintro H2 ⟨μ3, acc, av, G2, A2, i2, e2, m2, S2, nA, nG, hH, dd⟩
      have hD0 : H D = none := by
        cases z : H D with
        | none => rfl
        | some o => exact absurd hD (m1.up D (by rw [z]; intro w; cases w))
      exact q D G2 H2 A2 μ3 acc i2 ⟨e1.trans e2, hD0, m1.trans m2, S2, nA, nG, av, hH, dd⟩
/-- the new list becomes one of ours -/
theorem LcEnd.cell {K : PySem.W.Frag} {G H : Hp} {A : List Addr} {D : Addr} {G2 H2 : Hp} {A2 : List Addr} {μ3 : MU} {acc : List Dt} (L : LcEnd K G H A D G2 H2 A2 μ3 acc) : Same G G2 ∧ Mv G A H G2 (A2 ++ [D]) H2 ∧ Sit K G2 H2 (A2 ++ [D]) (μ3 ++ [some (Cl.lst acc)]) ∧ Rp K G2 (A2 ++ [D]) (.ref D) (.c μ3.length) := by
  obtain ⟨av, hH, dd⟩ := L.hv
  have nA := L.nA
  have hl := L.sit.len
  have last : ∀ k a, ¬ k < A2.length → (A2 ++ [D])[k]? = some a → k = A2.length ∧ a = D := fun k a hk ha => by
    have r := lt_get ha
    rw [List.length_append] at r
    have e : k = A2.length := by simp at r; omega
    subst e
    rw [List.getElem?_append_right (Nat.le_refl _), Nat.sub_self] at ha
    exact ⟨rfl, (Option.some.inj ha).symm⟩
  have S3 : Sit K G2 H2 (A2 ++ [D]) (μ3 ++ [some (Cl.lst acc)]) := by
    refine ⟨L.sit.ex, by rw [List.length_append, List.length_append, hl]; rfl, ?_, fun k a ha => ?_, fun k a es ha hm => ?_⟩
    · rw [List.nodup_append]
      refine ⟨L.sit.nd, by simp, fun a ha b hb => ?_⟩
      have hb : b = D := by simpa using hb
      subst hb
      intro e; subst e
      exact nA ha
    · by_cases hk : k < A2.length
      · rw [List.getElem?_append_left hk] at ha; exact L.sit.liv k a ha
      · obtain ⟨_, rfl⟩ := last k a hk ha
        rw [hH]; intro z; cases z
    · by_cases hk : k < A2.length
      · rw [List.getElem?_append_left hk] at ha
        rw [List.getElem?_append_left (by omega)] at hm
        exact L.sit.cl k a es ha hm
      · obtain ⟨rfl, rfl⟩ := last k a hk ha
        rw [hl, List.getElem?_append_right (Nat.le_refl _), Nat.sub_self] at hm
        have hm := Option.some.inj (Option.some.inj hm)
        subst hm
        exact ⟨L.nG, av, hH, dd⟩
  obtain ⟨B, hB, fB⟩ := L.mv.pre
  refine ⟨L.same, ⟨⟨B ++ [D], by rw [hB, List.append_assoc], fun a ha => ?_⟩, L.mv.kp, L.mv.up, L.mv.gr⟩, S3, .c (by rw [← hl, List.getElem?_append_right (Nat.le_refl _), Nat.sub_self]; rfl)⟩
  rcases List.mem_append.mp ha with z | z
  · exact fB a z
  · have z : a = D := by simpa using z
    rw [z]; exact L.hD
/-- y = [.. for .. in a list of ours] on one line, to be changed later -/
theorem b1_setLcM (k : Nat) {nm : Str} {ds : List Dt} {elt : Expr} {ifs : List Expr} {sc : Scope} {own : List (Str × Nat)} {lp : Pos} {k0 : Nat} (J : Nat → MU → List Dt → Prop) (hc : X.calm = true) (hN : X.N.Nodup) (hy : X.N[k]? = some nm) (hyl : X.env.scope.names.lookup nm = some .local)
    (hsw : swapsWith (.ListComp elt [⟨tg, iter, ifs, 0⟩] sc lp) (some (.Name nm pos')) pos.line X.env = pure true) (ok : BlkOk X.N X.env.scope sc own) (hi : Ev X iter env μ μ1 (.c k0)) (hJ : ∀ i m acc, J i m acc → m[k0]? = some (some (Cl.lst ds))) (h0 : J 0 μ1 [])
    (hs : ∀ i d μ acc, ds[i]? = some d → J i μ acc → ∃ env' ks b μ2, (∀ k ∈ ks, k ∈ own.map (·.2)) ∧ InB X sc (fun Y => Tg Y tg (.d d) (wipeE env (own.map (·.2))) μ env' ks) ∧ InB X sc (fun Y => EvTs Y ifs env' μ μ2 b) ∧
      (b = true → ∃ y μ3, InB X sc (fun Y => Ev Y elt env' μ2 μ3 (.d y)) ∧ acc.length < sizeLine ∧ J (i + 1) μ3 (acc ++ [y])) ∧ (b = false → J (i + 1) μ2 acc))
    (hn : ∀ m acc, J ds.length m acc → D.nx (env.set k (some (.c m.length))) (m ++ [some (Cl.lst acc)])) (hf : ∀ x, foldedSetIterable iter X.env x = pure x := by intro _; rfl) : B1 X (.Assign [.Name nm pos'] (.ListComp elt [⟨tg, iter, ifs, 0⟩] sc lp) pos) env μ D := .mk fun σ G H A E S N q pins s I =>
  (ps_setLc (own := own) hc hN hy hyl hsw pI ok (fun s0 H0 C cl fp => ⟨fun pins s σ H v u Q I r h => h s0 H0 C cl fp pins s u I r⟩) (fun s0 H0 C cl fp => ⟨fun pins s σ H Q I h => h s0 H0 C cl fp pins s I⟩) (fun s0 H0 C cl fp => ⟨fun pins s σ H Q I h => h s0 H0 C cl fp pins s I⟩) hf).run pins s σ H N I
    (lc_readM J hi hJ h0 hs σ G H A E S _ fun Dd G2 H2 A2 μ2 acc j L => by
      obtain ⟨e1, p1, S1, r1⟩ := L.cell
      exact q.nx _ _ _ G2 H2 _ (hn μ2 acc j) e1 p1 ((E.mv e1 p1).set r1 k) S1)
theorem dpa_erase {K : PySem.W.Frag} {G : Hp} : ∀ {vs : List V} {ds : List Dt} (n : Nat), DpAll K G vs ds → DpAll K G (vs.eraseIdx n) (ds.eraseIdx n)
  | _, _, _, .nil => .nil
  | _, _, 0, .cons _ hs => hs
  | _, _, n + 1, .cons h hs => .cons h (dpa_erase n hs)
theorem dpa_dropLast {K : PySem.W.Frag} {G : Hp} : ∀ {vs : List V} {ds : List Dt}, DpAll K G vs ds → DpAll K G vs.dropLast ds.dropLast
  | _, _, .nil => .nil
  | _, _, .cons _ .nil => .nil
  | _, _, .cons h (.cons h' hs) => .cons h (dpa_dropLast (.cons h' hs))
/-- xs.pop(i), of a list of ours -/
theorem ev_popAt {k j : Nat} {d : Dt} {ds : List Dt} (ho : Ev X o env μ μ1 (.c k)) (h : Ev X e env μ1 μ2 (.d (.int (j : Int)))) (hk1 : ∃ ds', μ1[k]? = some (some (Cl.lst ds'))) (hk : μ2[k]? = some (some (Cl.lst ds))) (hd : ds[j]? = some d) (h9 : ds.length ≤ 1000)
    (hbase : attributeBase o "pop" X.env (eval o X.env) = eval o X.env := by rfl)
    (hfew : ((backTo pos (starEach [e] X.env)).all (fun x => !x.1) && (backToKw pos (keywordEach [] X.env)).all (fun x => x.1.isSome)
      && decide ([e].length + ([] : List Keyword).length + (if ([] : List Keyword).isEmpty then 0 else 1) < 30)) = true := by rfl)
    (hline : (ap.endLine == pos.line) = true := by rfl) (hs : starEach [e] X.env = (false, eval e X.env) :: starEach [] X.env := by rfl) (hplain : (backTo pos (starEach [] X.env)).any (·.1) = false := by rfl) :
    Ev X (.Call (.Attribute o "pop" ap) [e] [] pos) env μ (μ2.set k (some (Cl.lst (ds.eraseIdx j)))) (.d d) := .mk fun σ G H A E S Q q pins s I =>
  (pe_bm PySem.F.plainAttrs_list PySem.F.slot_list_pop PySem.F.type_list_pop mt_popAt pu (pa_cons pu pa_nil hs) hbase hfew hline hs hplain).run pins s σ H Q I (ho.run σ G H A E S _ fun v G1 H1 A1 e1 p1 S1 r1 => by
    cases r1 with
    | @c _ a hA =>
      obtain ⟨ds', hk1⟩ := hk1
      obtain ⟨_, xs0, hx0, _⟩ := S1.cell k a ds' hA hk1
      refine ⟨.inl ⟨rfl, _, SqL.of hx0⟩, h.run σ G1 H1 A1 (E.mv e1 p1) S1 _ fun w G2 H2 A2 e2 p2 S2 r2 => ?_⟩
      have hA2 := p2.Pre.get hA
      obtain ⟨g0, xs, hx, hdp⟩ := S2.cell k a ds hA2 hk
      have hjl := lt_get hd
      have hxl := dpa_len hdp
      obtain ⟨v', hv1, hv2⟩ := dpa_get hdp hd
      refine ⟨a, xs, (j : Int), j, v', rfl, by rw [r2.int], hx, by omega, by omega, ?_, hv1, q _ G2 _ A2 (e1.trans e2) ((p1.trans p2).trans (Mv.put (List.mem_of_getElem? hA2))) (S2.put hA2 hk (dpa_erase j hdp)) (.d hv2)⟩
      unfold seqIndex?
      first
        | (simp; omega)
        | (rw [if_neg (by omega)]; simp; omega))
end
end Rw
namespace Rw
open PySem PySem.Spec PyProof.Rows L2
/-! ### drawn plans -/
structure DwS where
  found : List Dt
  left : List Man
  b : Bag
def dwJ (s : DwS) : Nat := (takeV s.b s.left.length).toNat
def dwQ (r : Raft) (s : DwS) : List Rat × Bag := drwZ r s.left.length s.left.length (takeB s.b s.left.length)
def dwStep (r : Raft) (s : DwS) : DwS := match s.left[dwJ s]? with
  | none => s
  | some m => ⟨s.found ++ [.tuple [plD ((dwQ r s).1.set (dwJ s) 0), .str m.nm]], dropAt s.left (dwJ s), (dwQ r s).2⟩
def dwN (r : Raft) : Nat → DwS → DwS
  | 0, s => s
  | n + 1, s => dwStep r (dwN r n s)
def dw0 (fs : List Man) (b : Bag) : DwS := ⟨[], fs, takeB b (fs.length + 1)⟩
def dwT (fs : List Man) (b : Bag) : Nat := (takeV b (fs.length + 1)).toNat
def dwE (r : Raft) (fs : List Man) (b : Bag) : DwS := dwN r (dwT fs b) (dw0 fs b)
structure DwI (r : Raft) (fs : List Man) (i : Nat) (s : DwS) : Prop where
  len : s.left.length + i = fs.length
  sub : ∀ m ∈ s.left, m ∈ fs
  fl : s.found.length = i
  ni : ∀ d ∈ s.found, Nice 0 3 d
  bo : s.b.ok
theorem dwT_le (fs : List Man) (b : Bag) : dwT fs b ≤ fs.length := by
  have h1 := take_lo b (n := (fs.length : Int) + 1) (by omega)
  have h2 := take_hi b (n := (fs.length : Int) + 1) (by omega)
  unfold dwT; omega
theorem dwJ_lt {s : DwS} (h : 0 < s.left.length) : dwJ s < s.left.length := by
  have h1 := take_lo s.b (n := (s.left.length : Int)) (by omega)
  have h2 := take_hi s.b (n := (s.left.length : Int)) (by omega)
  unfold dwJ; omega
theorem dwI_step {r : Raft} {fs : List Man} {i : Nat} {s : DwS} (hr : r.ok) (hm : Men fs) (hn : NmA fs) (h : DwI r fs i s) (hi : i < fs.length) : DwI r fs (i + 1) (dwStep r s) := by
  have h0 : 0 < s.left.length := by have := h.len; omega
  have hj := dwJ_lt h0
  have e : s.left[dwJ s]? = some (s.left[dwJ s]'hj) := List.getElem?_eq_getElem _
  have h7 := hm.1
  have hl := h.len
  have hb1 : (takeB s.b s.left.length).ok := take_ok (by omega) h.bo
  unfold dwStep
  rw [e]
  have hmem := h.sub _ (List.mem_of_getElem? e)
  obtain ⟨a1, a2⟩ := names_asc _ (hn _ hmem)
  refine ⟨?_, fun m hm => h.sub m (mem_dropAt hm), ?_, fun d hd => ?_, drwZ_ok _ _ _ hb1⟩
  · show (dropAt s.left (dwJ s)).length + (i + 1) = _
    rw [drop_len hj]; omega
  · show (s.found ++ [_]).length = _
    rw [List.length_append, h.fl]; rfl
  · rcases List.mem_append.mp (show d ∈ s.found ++ [_] from hd) with z | z
    · exact h.ni d z
    · have z := List.mem_singleton.mp z
      rw [z]
      refine nice_t2 (nice_plD (k := 0) (m := 13) (fun q hq => ?_) (by omega) ?_) (nice_s a1 a2)
      · rcases List.mem_or_eq_of_mem_set hq with y | y
        · exact quart_sz (drwZ_q hr _ _ _ q y).1
        · rw [y]; exact sz_zero (by omega)
      · rw [List.length_set]
        show (drwZ r s.left.length s.left.length (takeB s.b s.left.length)).1.length ≤ 140
        rw [drwZ_len]; omega
theorem dwI_all {r : Raft} {fs : List Man} {b : Bag} (hr : r.ok) (hm : Men fs) (hn : NmA fs) (hb : b.ok) : ∀ n, n ≤ fs.length → DwI r fs n (dwN r n (dw0 fs b))
  | 0, _ => ⟨by show fs.length + 0 = _; omega, fun m hm => hm, rfl, (fun d hd => by
      have hd : d ∈ ([] : List Dt) := hd
      simp at hd), take_ok (by omega) hb⟩
  | n + 1, h => dwI_step hr hm hn (dwI_all hr hm hn hb n (by omega)) (by omega)
theorem dwE_nc {r : Raft} {fs : List Man} {b : Bag} (hr : r.ok) (hm : Men fs) (hn : NmA fs) (hb : b.ok) : Nice 0 4 (.list (dwE r fs b).found) ∧ (dwE r fs b).b.ok := by
  have h := dwI_all hr hm hn hb (dwT fs b) (dwT_le fs b)
  have h7 := hm.1
  have := dwT_le fs b
  exact ⟨nice_lst (by show (dwN r (dwT fs b) (dw0 fs b)).found.length ≤ 140; rw [h.fl]; omega) h.ni, h.bo⟩
theorem erase_drop {α : Type} (l : List α) (j : Nat) : l.eraseIdx j = dropAt l j := List.eraseIdx_eq_take_drop_succ l j
end Rw
/-! Rw6b: k not in d, xs.pop(); the least front gaps found from a stack; a table looked at the other way. -/
namespace Rw
open PySem PySem.Spec PyProof.Rows L2
theorem op_dnin {X : Cx} (hu : X.A.units + 1 < cLine) : OpR X (compareOp .NotIn) (rDin X true) := by
  intro pins s σ H x y v u Q I rx ry h
  obtain ⟨a, b, xs, k, rfl, rfl, g, kb, q⟩ := h
  cases rx
  cases ry
  obtain ⟨h0, dd⟩ := dg_at I g
  exact wpAny_notIn_heap (tupleKind_room_in1 hu) (key_at I kb) h0 dd ⟨.bl _, H, I.tok _, rfl, q⟩
section
variable {X : Cx} {env : LE} {μ μ0 μ1 μ2 μ3 μ4 : MU} {x y z : DE} {a b c e o : Expr} {es : List Expr} {pos p pos' ap : Pos} {D : DN}
theorem c_dnin {j : Nat} {kvs : List (List Str × Dt)} {k : List Str} (hu : X.A.units + 1 < cLine) (hm : μ[j]? = some (some (.dic X.prog X.w kvs))) : CmpD X .NotIn (.d (.tuple (k.map .str))) (.c j) μ (!(atD kvs k).isSome) :=
  ⟨_, op_dnin hu, fun G H A v w S r1 r2 Q q => by
    cases r2 with
    | @c _ l hA =>
      obtain ⟨xs, g, en, _⟩ := S.dg hA hm
      obtain ⟨bb, rfl, _, kb⟩ := strs_tup S r1
      exact ⟨l, bb, xs, kyS k, rfl, rfl, g, kb, by rw [if_pos rfl, en.isS]; exact q.now S (.d (.bl _))⟩⟩
/-- xs.pop(), of a list of ours -/
theorem ev_pop {k : Nat} {d : Dt} {ds : List Dt} (ho : Ev X o env μ μ1 (.c k)) (hk : μ1[k]? = some (some (Cl.lst (ds ++ [d]))))
    (hbase : attributeBase o "pop" X.env (eval o X.env) = eval o X.env := by rfl) (hline : (ap.endLine == pos.line) = true := by rfl) :
    Ev X (.Call (.Attribute o "pop" ap) [] [] pos) env μ (μ1.set k (some (Cl.lst ds))) (.d d) := .mk fun σ G H A E S Q q pins s I =>
  (pe_bm0 PySem.F.plainAttrs_list PySem.F.slot_list_pop PySem.F.type_list_pop mt_pop pu hbase hline).run pins s σ H Q I (ho.run σ G H A E S _ fun v G1 H1 A1 e1 p1 S1 r1 => by
    cases r1 with
    | @c _ a hA =>
      obtain ⟨g0, xs, hx, hdp⟩ := S1.cell k a _ hA hk
      have hxl := dpa_len hdp
      have hd : (ds ++ [d])[xs.length - 1]? = some d := by
        rw [hxl, List.length_append, List.getElem?_append_right (by simp)]; simp
      obtain ⟨v', hv1, hv2⟩ := dpa_get hdp hd
      have h3 := dpa_dropLast hdp
      rw [List.dropLast_concat] at h3
      exact ⟨.inl ⟨rfl, _, SqL.of hx⟩, a, xs, v', rfl, rfl, hx, hv1, q _ G1 _ A1 e1 (p1.trans (Mv.put (List.mem_of_getElem? hA))) (S1.put hA hk h3) (.d hv2)⟩)
end
/-! ### dicts by functions -/
theorem atD_cons (q : List Str × Dt) (kvs : List (List Str × Dt)) (k : List Str) : atD (q :: kvs) k = if q.1 = k then some q.2 else atD kvs k := by
  unfold atD
  rw [List.find?_cons]
  by_cases e : q.1 = k
  · rw [decide_eq_true e, if_pos e]; rfl
  · rw [decide_eq_false e, if_neg e]
theorem atD_repl (k : List Str) (d : Dt) (k' : List Str) : ∀ kvs : List (List Str × Dt), atD (kvs.map fun x => if x.1 = k then (x.1, d) else x) k' = if k' = k ∧ (atD kvs k).isSome then some d else atD kvs k'
  | [] => by
    by_cases e : k' = k ∧ (atD [] k).isSome
    · exact absurd e.2 (by simp [atD])
    · rw [if_neg e]; rfl
  | q :: kvs => by
    have ih := atD_repl k d k' kvs
    rw [List.map_cons, atD_cons, atD_cons, ih, atD_cons]
    by_cases e1 : q.1 = k
    · rw [if_pos e1, if_pos e1]
      by_cases e2 : q.1 = k'
      · rw [if_pos e2, if_pos ⟨by rw [← e2, e1], rfl⟩]
      · have e3 : ¬ k' = k := fun z => e2 (by rw [e1, z])
        rw [if_neg e2, if_neg (fun z => e3 z.1), if_neg (fun z => e3 z.1), if_neg e2]
    · rw [if_neg e1, if_neg e1]
      by_cases e2 : q.1 = k'
      · have e3 : ¬ k' = k := fun z => e1 (by rw [e2, z])
        rw [if_pos e2, if_neg (fun z => e3 z.1), if_pos e2]
      · rw [if_neg e2, if_neg e2]
theorem atD_app (kvs lvs : List (List Str × Dt)) (k : List Str) : atD (kvs ++ lvs) k = match atD kvs k with
    | some d => some d
    | none => atD lvs k := by
  induction kvs with
  | nil => rfl
  | cons q kvs ih =>
    rw [List.cons_append, atD_cons, atD_cons, ih]
    by_cases e : q.1 = k
    · rw [if_pos e, if_pos e]
    · rw [if_neg e, if_neg e]
theorem atD_put (kvs : List (List Str × Dt)) (k : List Str) (d : Dt) (k' : List Str) : atD (putD kvs k d) k' = if k' = k then some d else atD kvs k' := by
  unfold putD
  cases e : atD kvs k with
  | some d' =>
    rw [if_pos (show (some d').isSome = true from rfl), atD_repl, e]
    by_cases h : k' = k
    · rw [if_pos ⟨h, rfl⟩, if_pos h]
    · rw [if_neg (fun z => h z.1), if_neg h]
  | none =>
    rw [if_neg (by decide), atD_app]
    by_cases h : k' = k
    · subst h
      rw [e, if_pos rfl, atD_cons, if_pos rfl]
    · rw [if_neg h]
      cases q : atD kvs k' with
      | some d' => rfl
      | none =>
        show atD [(k, d)] k' = none
        rw [atD_cons, if_neg (fun z => h z.symm)]; rfl
/-! ### the stack -/
abbrev WE := List Str × Rat
def weD (q : WE) : Dt := .tuple [encK q.1, rD q.2]
def nxt (lot : List Str) (n : Str) : List Str := sortT (lot ++ [n])
def Tn : Nat → Nat
  | 0 => 1
  | k + 1 => 1 + (k + 1) * Tn k
theorem Tn_pos (k : Nat) : 1 ≤ Tn k := by cases k <;> simp [Tn] <;> omega
def tsz (n : Nat) (d : Dt) : Nat := match d with
  | .tuple [.tuple l, _] => Tn (n - l.length)
  | _ => 1
def msz (n : Nat) (ds : List Dt) : Nat := (ds.map (tsz n)).sum
theorem tsz_we (n : Nat) (q : WE) : tsz n (weD q) = Tn (n - q.1.length) := by
  show Tn (n - (q.1.map PyData.str).length) = _
  rw [List.length_map]
theorem msz_snoc (n : Nat) (ds : List Dt) (q : WE) : msz n (ds ++ [weD q]) = msz n ds + Tn (n - q.1.length) := by
  unfold msz
  rw [List.map_append, List.sum_append]
  show _ + (tsz n (weD q) + 0) = _
  rw [tsz_we]; omega
theorem msz_len (n : Nat) : ∀ st : List WE, st.length ≤ msz n (st.map weD)
  | [] => Nat.zero_le _
  | q :: st => by
    have ih := msz_len n st
    have := Tn_pos (n - q.1.length)
    unfold msz at ih ⊢
    rw [List.map_cons, List.map_cons, List.sum_cons, tsz_we, List.length_cons]; omega
structure WIo (r : Raft) (fs : List Man) : Prop where
  rf : r.ok
  mn : Men fs
  nd : (nms fs).Nodup
  ri : Rise (nms fs)
/-- some way leads there -/
def Rl (r : Raft) (fs : List Man) (x : Rat) (lot : List Str) (g : Rat) : Prop := lot.Sublist (nms fs) ∧ ∃ o : List Str, o.Perm lot ∧ runO r fs x o = some g
def Cov (F : List Str → Option Rat) (st : List WE) (lot : List Str) (y : Rat) : Prop := (∃ g, F lot = some g ∧ g ≤ y) ∨ ∃ g, (lot, g) ∈ st ∧ g ≤ y
structure WI (r : Raft) (fs : List Man) (x : Rat) (F : List Str → Option Rat) (st : List WE) (ex : List Str → Man → Prop) : Prop where
  root : Cov F st [] x
  real : ∀ lot g, (F lot = some g ∨ (lot, g) ∈ st) → Rl r fs x lot g
  clo : ∀ lot g m v, F lot = some g → m ∈ stay fs lot → goesM r (stay fs lot) g m = some v → ex lot m ∨ Cov F st (nxt lot m.nm) v
theorem runO_sz {n : Nat} {r : Raft} : ∀ {o : List Str} {fs : List Man} {x g : Rat}, r.ok → Men fs → Sz n x → runO r fs x o = some g → Sz (n + 16 * o.length) g
  | [], fs, x, g, _, _, hx, h => by rw [← Option.some.inj h]; exact hx.mono (by simp)
  | a :: o, fs, x, g, hr, hm, hx, h => by
    have h : (goes r fs x a).bind (fun y => runO r (stay fs [a]) y o) = some g := h
    cases e : goes r fs x a with
    | none => rw [e] at h; cases h
    | some z =>
      rw [e, Option.bind_some] at h
      unfold goes at e
      cases e2 : manOf fs a with
      | none => rw [e2] at e; cases e
      | some m =>
        rw [e2, Option.bind_some] at e
        have h1 := goesM_szK hr hm (manOf_mem e2).1 hx e
        exact (runO_sz hr (hm.stay _) h1 h).mono (by rw [List.length_cons]; omega)
theorem Rl.sz {n : Nat} {r : Raft} {fs : List Man} {x g : Rat} {lot : List Str} (o : WIo r fs) (hx : Sz n x) (h : Rl r fs x lot g) : Sz (n + 112) g := by
  obtain ⟨hs, p, hp, hr⟩ := h
  have hl := hs.length_le
  rw [nms, List.length_map] at hl
  have h7 := o.mn.1
  have := hp.length_eq
  exact (runO_sz o.rf o.mn hx hr).mono (by omega)
theorem Cov.up {F F' : List Str → Option Rat} {st st' : List WE} {lot : List Str} {y : Rat} (h : Cov F st lot y) (h1 : ∀ g, F lot = some g → ∃ g', F' lot = some g' ∧ g' ≤ g) (h2 : ∀ g, (lot, g) ∈ st → (∃ g', F' lot = some g' ∧ g' ≤ g) ∨ (lot, g) ∈ st') : Cov F' st' lot y := by
  rcases h with ⟨g, a, b⟩ | ⟨g, a, b⟩
  · obtain ⟨g', c, d⟩ := h1 g a
    exact .inl ⟨g', c, Rat.le_trans d b⟩
  · rcases h2 g a with ⟨g', c, d⟩ | c
    · exact .inl ⟨g', c, Rat.le_trans d b⟩
    · exact .inr ⟨g, c, b⟩
def noEx : List Str → Man → Prop := fun _ _ => False
/-- popped, and nothing better -/
theorem WI.drop {r : Raft} {fs : List Man} {x : Rat} {F : List Str → Option Rat} {st : List WE} {lot : List Str} {g g0 : Rat} (h : WI r fs x F (st ++ [(lot, g)]) noEx) (h0 : F lot = some g0) (hg : ¬ g < g0) : WI r fs x F st noEx := by
  have up : ∀ l y, Cov F (st ++ [(lot, g)]) l y → Cov F st l y := fun l y c => c.up (fun g' e => ⟨g', e, Rat.le_refl⟩) fun g' e => by
    rcases List.mem_append.mp e with z | z
    · exact .inr z
    · have z : (l, g') = (lot, g) := List.mem_singleton.mp z
      cases z
      exact .inl ⟨g0, h0, Rat.not_lt.mp hg⟩
  refine ⟨up _ _ h.root, fun l g' e => h.real l g' (e.imp id fun z => List.mem_append_left _ z), fun l g' m v e1 e2 e3 => ?_⟩
  rcases h.clo l g' m v e1 e2 e3 with z | z
  · exact z.elim
  · exact .inr (up _ _ z)
/-- popped, and stored -/
theorem WI.store {r : Raft} {fs : List Man} {x : Rat} {F : List Str → Option Rat} {st : List WE} {lot : List Str} {g : Rat} (h : WI r fs x F (st ++ [(lot, g)]) noEx) (h0 : ∀ g0, F lot = some g0 → g < g0) : WI r fs x (fun l => if l = lot then some g else F l) st (fun l m => l = lot ∧ m ∈ (stay fs lot).drop 0) := by
  have up : ∀ l y, Cov F (st ++ [(lot, g)]) l y → Cov (fun l => if l = lot then some g else F l) st l y := fun l y c => by
    by_cases el : l = lot
    · subst el
      refine c.up (fun g' e => ⟨g, if_pos rfl, Rat.le_of_lt (h0 g' e)⟩) fun g' e => ?_
      rcases List.mem_append.mp e with z | z
      · exact .inr z
      · have z : (l, g') = (l, g) := List.mem_singleton.mp z
        cases z
        exact .inl ⟨g, if_pos rfl, Rat.le_refl⟩
    · refine c.up (fun g' e => ⟨g', by show (if l = lot then some g else F l) = _; rw [if_neg el]; exact e, Rat.le_refl⟩) fun g' e => ?_
      rcases List.mem_append.mp e with z | z
      · exact .inr z
      · have z : (l, g') = (lot, g) := List.mem_singleton.mp z
        cases z
        exact absurd rfl el
  refine ⟨up _ _ h.root, fun l g' e => ?_, fun l g' m v e1 e2 e3 => ?_⟩
  · rcases e with e | e
    · by_cases el : l = lot
      · subst el
        have e : (if l = l then some g else F l) = some g' := e
        rw [if_pos rfl] at e
        cases e
        exact h.real _ _ (.inr (by simp))
      · have e : (if l = lot then some g else F l) = some g' := e
        rw [if_neg el] at e
        exact h.real _ _ (.inl e)
    · exact h.real _ _ (.inr (List.mem_append_left _ e))
  · by_cases el : l = lot
    · subst el
      exact .inl ⟨rfl, by rw [List.drop_zero]; exact e2⟩
    · have e1 : (if l = lot then some g else F l) = some g' := e1
      rw [if_neg el] at e1
      rcases h.clo l g' m v e1 e2 e3 with z | z
      · exact z.elim
      · exact .inr (up _ _ z)
theorem stay_in {fs : List Man} {lot : List Str} {m : Man} (h : m ∈ stay fs lot) : m.nm ∈ nms fs ∧ m.nm ∉ lot := ⟨List.mem_map.mpr ⟨m, (stay_mem.mp h).1, rfl⟩, (stay_mem.mp h).2⟩
theorem Rl.step {r : Raft} {fs : List Man} {x g v : Rat} {lot : List Str} {m : Man} (o : WIo r fs) (h : Rl r fs x lot g) (hm : m ∈ stay fs lot) (hv : goesM r (stay fs lot) g m = some v) : Rl r fs x (nxt lot m.nm) v := by
  obtain ⟨hs, p, hp, hr⟩ := h
  obtain ⟨h1, h2⟩ := stay_in hm
  obtain ⟨n1, n2, n3, n4, n5⟩ := next_lot o.nd o.ri hs h1 h2
  refine ⟨n1, p ++ [m.nm], ?_, ?_⟩
  · exact (List.Perm.append_right [m.nm] hp).trans (sortT_perm _).symm
  · rw [runO_snoc, hr, Option.bind_some, stay_congr (fun z => hp.mem_iff)]
    unfold goes
    rw [manOf_at (nd_stay o.nd _) hm, Option.bind_some]; exact hv
/-- one of those who stay, who can -/
theorem WI.push {r : Raft} {fs : List Man} {x : Rat} {F : List Str → Option Rat} {st : List WE} {lot : List Str} {g v : Rat} {i : Nat} {m : Man} (o : WIo r fs) (h : WI r fs x F st fun l m => l = lot ∧ m ∈ (stay fs lot).drop i) (hF : F lot = some g) (hi : (stay fs lot)[i]? = some m) (hv : goesM r (stay fs lot) g m = some v) :
    WI r fs x F (st ++ [(nxt lot m.nm, v)]) fun l m => l = lot ∧ m ∈ (stay fs lot).drop (i + 1) := by
  have hmem := List.mem_of_getElem? hi
  have up : ∀ l y, Cov F st l y → Cov F (st ++ [(nxt lot m.nm, v)]) l y := fun l y c => c.up (fun g' e => ⟨g', e, Rat.le_refl⟩) fun g' e => .inr (List.mem_append_left _ e)
  refine ⟨up _ _ h.root, fun l g' e => ?_, fun l g' m' v' e1 e2 e3 => ?_⟩
  · rcases e with e | e
    · exact h.real _ _ (.inl e)
    · rcases List.mem_append.mp e with z | z
      · exact h.real _ _ (.inr z)
      · have z : (l, g') = (nxt lot m.nm, v) := List.mem_singleton.mp z
        cases z
        exact (h.real lot g (.inl hF)).step o hmem hv
  · rcases h.clo l g' m' v' e1 e2 e3 with ⟨rfl, z⟩ | z
    · have hil := lt_get hi
      rw [List.drop_eq_getElem_cons hil] at z
      rcases List.mem_cons.mp z with z | z
      · rw [List.getElem?_eq_getElem hil] at hi
        have hi := Option.some.inj hi
        rw [hi] at z
        subst z
        rw [hF] at e1
        cases e1
        rw [hv] at e3
        cases e3
        exact .inr (.inr ⟨v, by simp, Rat.le_refl⟩)
      · exact .inl ⟨rfl, z⟩
    · exact .inr (up _ _ z)
theorem WI.skip {r : Raft} {fs : List Man} {x : Rat} {F : List Str → Option Rat} {st : List WE} {lot : List Str} {g : Rat} {i : Nat} {m : Man} (h : WI r fs x F st fun l m => l = lot ∧ m ∈ (stay fs lot).drop i) (hF : F lot = some g) (hi : (stay fs lot)[i]? = some m) (hv : goesM r (stay fs lot) g m = none) :
    WI r fs x F st fun l m => l = lot ∧ m ∈ (stay fs lot).drop (i + 1) := by
  refine ⟨h.root, h.real, fun l g' m' v' e1 e2 e3 => ?_⟩
  rcases h.clo l g' m' v' e1 e2 e3 with ⟨rfl, z⟩ | z
  · have hil := lt_get hi
    rw [List.drop_eq_getElem_cons hil] at z
    rcases List.mem_cons.mp z with z | z
    · rw [List.getElem?_eq_getElem hil] at hi
      have hi := Option.some.inj hi
      rw [hi] at z
      subst z
      rw [hF] at e1
      cases e1
      rw [hv] at e3
      cases e3
    · exact .inl ⟨rfl, z⟩
  · exact .inr z
theorem WI.all {r : Raft} {fs : List Man} {x : Rat} {F : List Str → Option Rat} {st : List WE} {lot : List Str} (h : WI r fs x F st fun l m => l = lot ∧ m ∈ (stay fs lot).drop (stay fs lot).length) : WI r fs x F st noEx :=
  ⟨h.root, h.real, fun l g m v e1 e2 e3 => (h.clo l g m v e1 e2 e3).imp (fun z => by
    have := z.2
    rw [List.drop_of_length_le (Nat.le_refl _)] at this
    simp at this) id⟩
theorem nxt_less {l lot : List Str} {n : Str} (hn : l.Nodup) (hr : Rise l) (hs : lot.Sublist l) (hm : n ∈ lot) : nxt (lessN lot n) n = lot := by
  refine (sortT_uniq ?_ (hr.sublist hs)).symm
  exact (lessN_perm (hs.nodup hn) hm).trans (List.perm_append_comm (l₁ := [n]) (l₂ := lessN lot n))
/-- nothing is left on the stack: what is found is the least -/
theorem WI.best {r : Raft} {fs : List Man} {x : Rat} {F : List Str → Option Rat} (o : WIo r fs) (h : WI r fs x F [] noEx) {lot : List Str} (hs : lot.Sublist (nms fs)) : F lot = bestG r fs x lot.length lot := by
  have ha : ∀ l g, l.Sublist (nms fs) → F l = some g → ∃ v, bestG r fs x l.length l = some v ∧ v ≤ g := fun l g hl e => by
    obtain ⟨_, p, hp, hr⟩ := h.real l g (.inl e)
    exact bestG_le o.rf o.mn (hl.nodup o.nd) rfl hp hr
  have hb : ∀ k l v, l.Sublist (nms fs) → l.length = k → bestG r fs x k l = some v → ∃ g, F l = some g ∧ g ≤ v := by
    intro k
    induction k with
    | zero =>
      intro l v hl hk e
      have : l = [] := List.length_eq_zero_iff.mp hk
      subst this
      rcases h.root with ⟨g, a, b⟩ | ⟨g, a, _⟩
      · exact ⟨g, a, by rw [← Option.some.inj e]; exact b⟩
      · cases a
    | succ k ih =>
      intro l v hl hk e
      obtain ⟨n, hn, e⟩ := List.mem_map.mp (minL_mem e)
      have hlen : (lessN l n).length = k := by have := lessN_len (hl.nodup o.nd) hn; omega
      have hls : (lessN l n).Sublist (nms fs) := List.filter_sublist.trans hl
      cases e2 : bestG r fs x k (lessN l n) with
      | none => rw [e2] at e; cases e
      | some y =>
        rw [e2, Option.bind_some] at e
        obtain ⟨g', a, b⟩ := ih _ y hls hlen e2
        obtain ⟨v', c, d⟩ := ha _ g' hls a
        rw [hlen, e2] at c
        cases c
        have hgy : g' = y := Rat.le_antisymm b d
        subst hgy
        unfold goes at e
        cases e3 : manOf (stay fs (lessN l n)) n with
        | none => rw [e3] at e; cases e
        | some m =>
          rw [e3, Option.bind_some] at e
          obtain ⟨hm, rfl⟩ := manOf_mem e3
          rcases h.clo _ g' m v a hm e with z | z
          · exact z.elim
          · rw [nxt_less o.nd o.ri hl hn] at z
            rcases z with ⟨g, p, q⟩ | ⟨g, p, _⟩
            · exact ⟨g, p, q⟩
            · cases p
  cases e : bestG r fs x lot.length lot with
  | some v =>
    obtain ⟨g, a, b⟩ := hb _ lot v hs rfl e
    obtain ⟨v', c, d⟩ := ha lot g hs a
    rw [e] at c
    cases c
    rw [a, Rat.le_antisymm b d]
  | none =>
    cases e2 : F lot with
    | none => rfl
    | some g =>
      obtain ⟨v', c, _⟩ := ha lot g hs e2
      rw [e] at c; cases c
theorem stay_len {fs : List Man} {lot : List Str} (hn : (nms fs).Nodup) (hs : lot.Sublist (nms fs)) : (stay fs lot).length + lot.length = fs.length := by
  have h1 : (nms fs).filter (fun a => decide (a ∈ lot)) = lot := filt_sub hs hn
  have h2 : (fs.filter fun m => decide (m.nm ∈ lot)).length = lot.length := by
    conv => rhs; rw [← h1]
    unfold nms
    rw [List.filter_map, List.length_map]; rfl
  have h3 : (stay fs lot).length + (fs.filter fun m => decide (m.nm ∈ lot)).length = fs.length := by
    unfold stay
    clear h1 h2 hs hn
    induction fs with
    | nil => rfl
    | cons m fs ih =>
      rw [List.filter_cons, List.filter_cons]
      by_cases e : m.nm ∈ lot
      · simp only [e, decide_true, Bool.not_true, Bool.false_eq_true, if_false, if_true, List.length_cons] at ih ⊢
        omega
      · simp only [e, decide_false, Bool.not_false, Bool.false_eq_true, if_false, if_true, List.length_cons] at ih ⊢
        omega
  omega
/-! ### a table, looked at from each lot on -/
theorem within_min {a : Option Rat} {L : List (Option Rat)} : withinQ a (minL L) = true ↔ ∀ v, some v ∈ L → ∃ g, a = some g ∧ g ≤ v := by
  constructor
  · intro h v hv
    obtain ⟨u, hu, hle⟩ := minL_le hv
    rw [hu] at h
    cases a with
    | none => cases h
    | some g => exact ⟨g, rfl, Rat.le_trans (of_decide_eq_true h) hle⟩
  · intro h
    cases e : minL L with
    | none => cases a <;> rfl
    | some u =>
      obtain ⟨g, rfl, hg⟩ := h u (minL_mem e)
      exact decide_eq_true hg
def LawOk (r : Raft) (fs : List Man) (G : List Str → Option Rat) (lot : List Str) : Prop := ∀ y, G lot = some y → ∀ m ∈ stay fs lot, ∀ v, goesM r (stay fs lot) y m = some v → ∃ g, G (nxt lot m.nm) = some g ∧ g ≤ v
theorem shown_law {r : Raft} {fs : List Man} {x : Rat} {G : List Str → Option Rat} (o : WIo r fs) : shownB r fs x G = true ↔ (∃ g, G [] = some g ∧ g ≤ x) ∧ ∀ lot ∈ lotsL fs, LawOk r fs G lot := by
  unfold shownB
  rw [Bool.and_eq_true, List.all_eq_true]
  refine and_congr ?_ ⟨fun h lot hl y hy m hm v hv => ?_, fun h l hl => within_min.mpr fun v hv => ?_⟩
  · cases G [] with
    | none => exact ⟨(fun z => by cases z), (fun ⟨g, z, _⟩ => by cases z)⟩
    | some g => exact ⟨(fun z => ⟨g, rfl, of_decide_eq_true z⟩), (fun ⟨g', z, hz⟩ => by cases z; exact decide_eq_true hz)⟩
  · obtain ⟨h1, h2⟩ := stay_in hm
    obtain ⟨n1, n2, n3, n4, n5⟩ := next_lot o.nd o.ri (lotsL_mem.mp hl) h1 h2
    refine within_min.mp (h _ (lotsL_mem.mpr n1)) v (List.mem_map.mpr ⟨m.nm, n3, ?_⟩)
    show ((G (lessN (sortT (lot ++ [m.nm])) m.nm)).bind fun y => goes r (stay fs (lessN (sortT (lot ++ [m.nm])) m.nm)) y m.nm) = some v
    rw [n2, hy, Option.bind_some]
    unfold goes
    rw [manOf_at (nd_stay o.nd _) hm, Option.bind_some]; exact hv
  · obtain ⟨n, hn, e⟩ := List.mem_map.mp hv
    have hls := lotsL_mem.mp hl
    have hlot : (lessN l n).Sublist (nms fs) := List.filter_sublist.trans hls
    cases e2 : G (lessN l n) with
    | none => rw [e2] at e; cases e
    | some y =>
      rw [e2, Option.bind_some] at e
      unfold goes at e
      cases e3 : manOf (stay fs (lessN l n)) n with
      | none => rw [e3] at e; cases e
      | some m =>
        rw [e3, Option.bind_some] at e
        obtain ⟨hm, rfl⟩ := manOf_mem e3
        have := h _ (lotsL_mem.mpr hlot) y e2 m hm v e
        rw [nxt_less o.nd o.ri hls hn] at this
        exact this
/-- data equal to a lot are the lot -/
theorem eqvs_strs : ∀ {xs : List Dt} {l : List Str}, PyData.eqvAll xs (l.map .str) = true → xs = l.map .str
  | [], [], _ => rfl
  | [], _ :: _, h => by simp [PyData.eqvAll] at h
  | _ :: _, [], h => by simp [PyData.eqvAll] at h
  | x :: xs, s :: l, h => by
    simp only [List.map_cons, PyData.eqvAll, Bool.and_eq_true] at h
    have hx : x = .str s := by
      cases x with
      | str t =>
        have := h.1
        rw [eqv_str] at this
        rw [of_decide_eq_true this]
      | _ => simp [PyData.eqv] at h
    rw [hx, eqvs_strs h.2]; rfl
theorem eqv_lot {d : Dt} {l : List Str} (h : PyData.eqv d (encK l) = true) : d = encK l := by
  unfold encK at h ⊢
  cases d with
  | tuple xs =>
    simp only [PyData.eqv] at h
    rw [eqvs_strs h]
  | _ => simp [PyData.eqv] at h
end Rw
namespace Rw
open PySem PySem.Spec PyProof.Rows L2
/-! ### the turns of the stack -/
structure BS where
  kvs : List (List Str × Dt)
  st : List WE
def pushL (r : Raft) (fs : List Man) (lot : List Str) (g : Rat) (l : List Man) : List WE := l.filterMap fun m => (goesM r (stay fs lot) g m).map fun v => (nxt lot m.nm, v)
def updB (kvs : List (List Str × Dt)) (q : WE) : Bool := match atD kvs q.1 with
  | none => true
  | some d => decide (q.2 < ratOf d)
def bGo (r : Raft) (fs : List Man) (kvs : List (List Str × Dt)) (st : List WE) (q : WE) : BS := if updB kvs q then ⟨putD kvs q.1 (rD q.2), st ++ pushL r fs q.1 q.2 (stay fs q.1)⟩ else ⟨kvs, st⟩
def bStep (r : Raft) (fs : List Man) (S : BS) : BS := match S.st.getLast? with
  | none => S
  | some q => bGo r fs S.kvs S.st.dropLast q
def bIt (r : Raft) (fs : List Man) : Nat → BS → BS
  | 0, S => S
  | j + 1, S => bStep r fs (bIt r fs j S)
def bS0 (x : Rat) : BS := ⟨[], [([], x)]⟩
def BI (r : Raft) (fs : List Man) (x : Rat) (S : BS) : Prop := ∃ F : List Str → Option Rat, (∀ k, atD S.kvs k = (F k).map rD) ∧ WI r fs x F S.st noEx ∧ S.kvs.length + msz fs.length (S.st.map weD) ≤ Tn fs.length
theorem bStep_snoc (r : Raft) (fs : List Man) {S : BS} {st : List WE} {q : WE} (h : S.st = st ++ [q]) : bStep r fs S = bGo r fs S.kvs st q := by
  unfold bStep
  rw [h, List.getLast?_concat, List.dropLast_concat]
theorem push_all {r : Raft} {fs : List Man} {x : Rat} {F : List Str → Option Rat} {lot : List Str} {g : Rat} (o : WIo r fs) (hF : F lot = some g) : ∀ (l : List Man) (i : Nat) (st : List WE), (stay fs lot).drop i = l → WI r fs x F st (fun l m => l = lot ∧ m ∈ (stay fs lot).drop i) → WI r fs x F (st ++ pushL r fs lot g l) noEx
  | [], i, st, e, h => by
    show WI r fs x F (st ++ []) noEx
    rw [List.append_nil]
    exact ⟨h.root, h.real, fun l' g' m v e1 e2 e3 => (h.clo l' g' m v e1 e2 e3).imp (fun z => by
      have := z.2
      rw [e] at this
      simp at this) id⟩
  | m :: l, i, st, e, h => by
    have hil : i < (stay fs lot).length := by
      rcases Nat.lt_or_ge i (stay fs lot).length with q | q
      · exact q
      · rw [List.drop_of_length_le q] at e; cases e
    rw [List.drop_eq_getElem_cons hil] at e
    have hi : (stay fs lot)[i]? = some m := by rw [List.getElem?_eq_getElem hil, (List.cons.inj e).1]
    have e2 := (List.cons.inj e).2
    cases hv : goesM r (stay fs lot) g m with
    | none =>
      have : pushL r fs lot g (m :: l) = pushL r fs lot g l := by unfold pushL; rw [List.filterMap_cons, hv]; rfl
      rw [this]
      exact push_all o hF l (i + 1) st e2 (h.skip hF hi hv)
    | some v =>
      have : pushL r fs lot g (m :: l) = [(nxt lot m.nm, v)] ++ pushL r fs lot g l := by unfold pushL; rw [List.filterMap_cons, hv]; rfl
      rw [this, ← List.append_assoc]
      exact push_all o hF l (i + 1) _ e2 (h.push o hF hi hv)
theorem msz_app (n : Nat) (a b : List Dt) : msz n (a ++ b) = msz n a + msz n b := by unfold msz; rw [List.map_append, List.sum_append]
theorem push_msz {r : Raft} {fs : List Man} {lot : List Str} {g : Rat} (n : Nat) : ∀ l : List Man, msz n ((pushL r fs lot g l).map weD) ≤ l.length * Tn (n - (lot.length + 1))
  | [] => Nat.zero_le _
  | m :: l => by
    have ih := push_msz (r := r) (fs := fs) (lot := lot) (g := g) n l
    rw [List.length_cons, Nat.succ_mul]
    cases hv : goesM r (stay fs lot) g m with
    | none =>
      have : pushL r fs lot g (m :: l) = pushL r fs lot g l := by unfold pushL; rw [List.filterMap_cons, hv]; rfl
      rw [this]; omega
    | some v =>
      have : pushL r fs lot g (m :: l) = (nxt lot m.nm, v) :: pushL r fs lot g l := by unfold pushL; rw [List.filterMap_cons, hv]; rfl
      rw [this, List.map_cons]
      have e : msz n (weD (nxt lot m.nm, v) :: (pushL r fs lot g l).map weD) = Tn (n - (lot.length + 1)) + msz n ((pushL r fs lot g l).map weD) := by
        unfold msz
        rw [List.map_cons, List.sum_cons, tsz_we]
        show Tn (n - (nxt lot m.nm).length) + _ = _
        rw [show (nxt lot m.nm).length = lot.length + 1 by unfold nxt; rw [(sortT_perm _).length_eq]; simp]
      rw [e]; omega
theorem BI.go {r : Raft} {fs : List Man} {x : Rat} {S : BS} {st : List WE} {q : WE} (o : WIo r fs) (h : BI r fs x S) (e : S.st = st ++ [q]) : BI r fs x (bGo r fs S.kvs st q) ∧ msz fs.length ((bGo r fs S.kvs st q).st.map weD) < msz fs.length (S.st.map weD) := by
  obtain ⟨F, hF, hW, hl⟩ := h
  rw [e] at hW hl ⊢
  obtain ⟨lot, g⟩ := q
  have hR := hW.real lot g (.inr (by simp))
  have hsl := stay_len o.nd hR.1
  have hms : msz fs.length ((st ++ [(lot, g)]).map weD) = msz fs.length (st.map weD) + Tn (fs.length - lot.length) := by rw [List.map_append]; exact msz_snoc _ _ _
  rw [hms] at hl ⊢
  have hT := Tn_pos (fs.length - lot.length)
  unfold bGo updB
  cases ea : F lot with
  | none =>
    have hat : atD S.kvs lot = none := by rw [hF, ea]; rfl
    have hs := hW.store (fun g0 e0 => by rw [ea] at e0; cases e0)
    have hall := push_all o (lot := lot) (g := g) (F := fun l => if l = lot then some g else F l) (if_pos rfl) _ 0 st (List.drop_zero) hs
    have hpm := push_msz (r := r) (fs := fs) (lot := lot) (g := g) fs.length (stay fs lot)
    have hTT : 1 + (stay fs lot).length * Tn (fs.length - (lot.length + 1)) ≤ Tn (fs.length - lot.length) := by
      cases k : fs.length - lot.length with
      | zero => rw [show (stay fs lot).length = 0 by omega]; simp [Tn]
      | succ k' => rw [show (stay fs lot).length = k' + 1 by omega, show fs.length - (lot.length + 1) = k' by omega]; exact Nat.le_refl _
    simp only [hat, if_true]
    have hpl := putD_len S.kvs lot (rD g)
    refine ⟨⟨fun l => if l = lot then some g else F l, fun k => ?_, hall, ?_⟩, ?_⟩
    · rw [atD_put]
      show _ = Option.map rD (if k = lot then some g else F k)
      by_cases ek : k = lot
      · rw [if_pos ek, if_pos ek]; rfl
      · rw [if_neg ek, if_neg ek]; exact hF k
    · show (putD S.kvs lot (rD g)).length + msz fs.length ((st ++ pushL r fs lot g (stay fs lot)).map weD) ≤ _
      rw [List.map_append, msz_app]; omega
    · rw [List.map_append, msz_app]; omega
  | some g0 =>
    have hat : atD S.kvs lot = some (rD g0) := by rw [hF, ea]; rfl
    simp only [hat, ratOf_rD, decide_eq_true_eq]
    by_cases hlt : g < g0
    · rw [if_pos hlt]
      have hs := hW.store (fun g1 e1 => by rw [ea] at e1; cases e1; exact hlt)
      have hall := push_all o (lot := lot) (g := g) (F := fun l => if l = lot then some g else F l) (if_pos rfl) _ 0 st (List.drop_zero) hs
      have hpm := push_msz (r := r) (fs := fs) (lot := lot) (g := g) fs.length (stay fs lot)
      have hTT : 1 + (stay fs lot).length * Tn (fs.length - (lot.length + 1)) ≤ Tn (fs.length - lot.length) := by
        cases k : fs.length - lot.length with
        | zero => rw [show (stay fs lot).length = 0 by omega]; simp [Tn]
        | succ k' => rw [show (stay fs lot).length = k' + 1 by omega, show fs.length - (lot.length + 1) = k' by omega]; exact Nat.le_refl _
      have hpl := putD_len S.kvs lot (rD g)
      refine ⟨⟨fun l => if l = lot then some g else F l, fun k => ?_, hall, ?_⟩, ?_⟩
      · rw [atD_put]
        show _ = Option.map rD (if k = lot then some g else F k)
        by_cases ek : k = lot
        · rw [if_pos ek, if_pos ek]; rfl
        · rw [if_neg ek, if_neg ek]; exact hF k
      · show (putD S.kvs lot (rD g)).length + msz fs.length ((st ++ pushL r fs lot g (stay fs lot)).map weD) ≤ _
        rw [List.map_append, msz_app]; omega
      · rw [List.map_append, msz_app]; omega
    · rw [if_neg hlt]
      exact ⟨⟨F, hF, hW.drop ea hlt, by show S.kvs.length + msz fs.length (st.map weD) ≤ _; omega⟩, by show msz fs.length (st.map weD) < _; omega⟩
theorem snoc_of {α : Type} {l : List α} (h : l ≠ []) : ∃ l' a, l = l' ++ [a] := ⟨l.dropLast, l.getLast h, (List.dropLast_concat_getLast h).symm⟩
theorem BI.step {r : Raft} {fs : List Man} {x : Rat} {S : BS} (o : WIo r fs) (h : BI r fs x S) : BI r fs x (bStep r fs S) ∧ (S.st ≠ [] → msz fs.length ((bStep r fs S).st.map weD) < msz fs.length (S.st.map weD)) := by
  by_cases e : S.st = []
  · have : bStep r fs S = S := by unfold bStep; rw [e]; rfl
    rw [this]
    exact ⟨h, fun z => absurd e z⟩
  · obtain ⟨st, q, eq⟩ := snoc_of e
    rw [bStep_snoc r fs eq]
    exact ⟨(h.go o eq).1, fun _ => (h.go o eq).2⟩
theorem BI.zero {r : Raft} {fs : List Man} {x : Rat} : BI r fs x (bS0 x) := by
  refine ⟨fun _ => none, fun k => rfl, ⟨.inr ⟨x, by simp [bS0], Rat.le_refl⟩, fun lot g e => ?_, fun lot g m v e => by cases e⟩, ?_⟩
  · rcases e with e | e
    · cases e
    · have e : (lot, g) = ([], x) := List.mem_singleton.mp e
      cases e
      exact ⟨List.nil_sublist _, [], .refl _, rfl⟩
  · show 0 + msz fs.length ([] ++ [weD ([], x)]) ≤ _
    rw [msz_snoc]
    show 0 + (0 + Tn (fs.length - 0)) ≤ _
    rw [Nat.sub_zero]; omega
theorem BI.it {r : Raft} {fs : List Man} {x : Rat} (o : WIo r fs) : ∀ j, BI r fs x (bIt r fs j (bS0 x)) ∧ ((bIt r fs j (bS0 x)).st = [] ∨ j + msz fs.length ((bIt r fs j (bS0 x)).st.map weD) ≤ Tn fs.length)
  | 0 => ⟨.zero, .inr (by
    obtain ⟨_, _, _, h⟩ := BI.zero (r := r) (fs := fs) (x := x)
    show 0 + msz fs.length ((bS0 x).st.map weD) ≤ _
    omega)⟩
  | j + 1 => by
    obtain ⟨h1, h2⟩ := BI.it o j
    obtain ⟨h3, h4⟩ := h1.step o
    refine ⟨h3, ?_⟩
    by_cases e : (bIt r fs j (bS0 x)).st = []
    · left
      show (bStep r fs (bIt r fs j (bS0 x))).st = []
      have : bStep r fs (bIt r fs j (bS0 x)) = bIt r fs j (bS0 x) := by unfold bStep; rw [e]; rfl
      rw [this]; exact e
    · right
      have := h4 e
      have h2 := h2.resolve_left e
      show j + 1 + msz fs.length ((bStep r fs (bIt r fs j (bS0 x))).st.map weD) ≤ _
      omega
theorem bIt_stop {r : Raft} {fs : List Man} {S : BS} {j : Nat} (e : (bIt r fs j S).st = []) : ∀ k, bIt r fs (j + k) S = bIt r fs j S
  | 0 => rfl
  | k + 1 => by
    show bStep r fs (bIt r fs (j + k) S) = _
    rw [bIt_stop e k]
    unfold bStep
    rw [e]; rfl
def kvB (r : Raft) (fs : List Man) (x : Rat) : List (List Str × Dt) := (bIt r fs (Tn fs.length) (bS0 x)).kvs
theorem bEnd {r : Raft} {fs : List Man} {x : Rat} (o : WIo r fs) : (bIt r fs (Tn fs.length) (bS0 x)).st = [] := by
  rcases (BI.it (x := x) o (Tn fs.length)).2 with e | e
  · exact e
  · have h := msz_len fs.length (bIt r fs (Tn fs.length) (bS0 x)).st
    exact List.length_eq_zero_iff.mp (by omega)
theorem bIt_end {r : Raft} {fs : List Man} {x : Rat} (o : WIo r fs) {j : Nat} (e : (bIt r fs j (bS0 x)).st = []) : (bIt r fs j (bS0 x)).kvs = kvB r fs x := by
  unfold kvB
  rcases Nat.le_total j (Tn fs.length) with h | h
  · rw [show Tn fs.length = j + (Tn fs.length - j) by omega, bIt_stop e]
  · rw [show j = Tn fs.length + (j - Tn fs.length) by omega, bIt_stop (bEnd o)]
theorem kvB_at {r : Raft} {fs : List Man} {x : Rat} (o : WIo r fs) {lot : List Str} (hs : lot.Sublist (nms fs)) : atD (kvB r fs x) lot = (bestG r fs x lot.length lot).map rD := by
  obtain ⟨F, hF, hW, _⟩ := (BI.it (x := x) o (Tn fs.length)).1
  rw [bEnd o] at hW
  unfold kvB
  rw [hF, hW.best o hs]
end Rw
namespace Rw
open PySem PySem.Spec PyProof.Rows L2
def topS (i : Nat) : Stmt := PySem.Challenge.pw_raftwalk_k06_tables_judged.main.body.getD i (.Pass ⟨0, 0, 0, 0⟩)
section
variable {P : Program} {w : World} {K : PySem.W.Frag} {mg : Str → Option Value} {base : Heap}
/-! ### common_divisor -/
abbrev s_common_divisor : Stmt := topS 4
theorem sc_common_divisor : FnScope ["one", "other"] ["one", "other"] (defScope s_common_divisor) := ⟨rfl, rfl, rfl, by decide +kernel, rfl, by decide +kernel, by decide +kernel⟩
def ph_common_divisor : Phi := phP (fun t : Int × Int => 0 ≤ t.1 ∧ 0 ≤ t.2) (fun t => [.d (.int t.1), .d (.int t.2)]) (fun t => .int (Nat.gcd t.1.toNat t.2.toNat : Nat))
theorem ok_common_divisor {f : Addr} {fd : FuncData} (F : Fun K "common_divisor" "common_divisor" s_common_divisor f fd) : FnOk P w K mg base CX0 1 f fd ["one", "other"] (SpD K ph_common_divisor) := by
  refine fn_p F sc_common_divisor (fun _ => rfl) fun cdv A outer s H E hr t hp μ => ?_
  obtain ⟨a, b⟩ := t
  refine bs_cons (M := fun env m => env = [some (.d (.int (Nat.gcd a.toNat b.toNat : Nat))), some (.d (.int 0))] ∧ m = μ) ?_ fun env m h => ?_
  · refine b1_while (fun env m => ∃ x y, env = [some (.d (.int x)), some (.d (.int y))] ∧ GcdI a b x y ∧ m = μ) env2i ⟨a, b, rfl, ⟨hp.1, hp.2, rfl⟩, rfl⟩ PassesOwn.never ?_
    rintro env m ⟨x, y, rfl, hg, rfl⟩
    refine ⟨decide (0 < y), et_cmp (ev_var 1 rfl rfl (.inl rfl)) ev_int c_gt rfl, fun e => ?_, fun e => ?_⟩
    · have e : 0 < y := of_decide_eq_true e
      obtain ⟨h1, h2⟩ := hg.turn e
      exact bs_one (b1_par 0 1 (ea_cons (ev_var 1 rfl rfl (.inl rfl)) (ea_cons (ev_mod (ev_var 0 rfl rfl (.inl rfl)) (ev_var 1 rfl rfl (.inl rfl)) e) ea_nil)) ⟨⟨_, _, rfl, h1, rfl⟩, h2⟩ rfl sc_common_divisor.nd rfl rfl (by decide) rfl rfl)
    · have e : ¬ 0 < y := of_decide_eq_false e
      have e0 : y = 0 := by have := hg.hy; omega
      have es := hg.stop e
      subst e0
      rw [es]
      exact ⟨rfl, rfl⟩
  · obtain ⟨rfl, rfl⟩ := h
    exact bs_ret (ev_var 0 rfl rfl (.inl rfl)) ⟨mu_end _, rfl⟩
/-! ### lowest -/
abbrev s_lowest : Stmt := topS 6
theorem sc_lowest : FnScope ["top", "bottom", "divisor"] ["top", "bottom"] (defScope s_lowest) := ⟨rfl, rfl, rfl, by decide +kernel, rfl, by decide +kernel, by decide +kernel⟩
def ph_lowest : Phi := phP (fun t : Int × Int => 0 < t.2 ∧ t.2.natAbs < 2 ^ 8000) (fun t => [.d (.int t.1), .d (.int t.2)]) (fun t => rD (mkRat t.1 t.2.toNat))
theorem abs_so (t : Int) : (if t < 0 then -t else t) = (t.natAbs : Int) := by split <;> omega
theorem gcd_div_ok {t b : Int} (hb : 0 < b) (h : b.natAbs < 2 ^ 8000) (i : Int) : CDivW i ((Nat.gcd t.natAbs b.toNat : Nat) : Int) := by
  have h1 : 0 < Nat.gcd t.natAbs b.toNat := Nat.gcd_pos_of_pos_right _ (by omega)
  have h2 : Nat.gcd t.natAbs b.toNat ≤ b.toNat := Nat.gcd_le_right _ (by omega)
  exact div_ok9 (by omega) (Nat.lt_of_le_of_lt (by omega) h)
theorem ok_lowest {f : Addr} {fd : FuncData} (F : Fun K "lowest" "lowest" s_lowest f fd) (d1 : Df P w K mg base 1 "common_divisor" ph_common_divisor) (mabs : mg "abs" = none) : FnOk P w K mg base CX0 2 f fd ["top", "bottom"] (SpD K ph_lowest) := by
  refine fn_p F sc_lowest (fun _ => rfl) fun cdv A outer s H E hr t hp μ => ?_
  obtain ⟨t, b⟩ := t
  obtain ⟨hb, hz⟩ : 0 < b ∧ b.natAbs < 2 ^ 8000 := hp
  refine bs_set 2 (ev_call d1 hr (by decide) rfl (ea_cons (ev_callB call_abs rfl mabs boot_abs (ea_cons (ev_var 0 rfl rfl (.inl rfl)) ea_nil) rc_abs) (ea_cons (ev_var 1 rfl rfl (.inl rfl)) ea_nil)) (phP.mk ((if t < 0 then -t else t), b) ⟨show 0 ≤ (if t < 0 then -t else t) by split <;> omega, show 0 ≤ b by omega⟩)) ?_ sc_lowest.nd rfl (.inl rfl)
  have e : (Nat.gcd (if t < 0 then -t else t).toNat b.toNat : Nat) = Nat.gcd t.natAbs b.toNat := by rw [abs_so, Int.toNat_natCast]
  show Bs _ _ [_, _, some (.d (.int ((Nat.gcd (if t < 0 then -t else t).toNat b.toNat : Nat) : Int)))] _ _
  rw [e]
  refine bs_ret (ev_tup (ds := [.int _, .int _]) (ea_cons (ev_div (ev_var 0 rfl rfl (.inl rfl)) (ev_var 2 rfl rfl (.inl rfl)) (gcd_div_ok hb hz _)) (ea_cons (ev_div (ev_var 1 rfl rfl (.inl rfl)) (ev_var 2 rfl rfl (.inl rfl)) (gcd_div_ok hb hz _)) ea_nil)) (ln (by simp))) ⟨mu_end _, ?_⟩
  rw [mk_num hb, mk_den hb]
  rfl
/-! ### plus -/
abbrev s_plus : Stmt := topS 7
theorem sc_plus : FnScope ["one", "other"] ["one", "other"] (defScope s_plus) := ⟨rfl, rfl, rfl, by decide +kernel, rfl, by decide +kernel, by decide +kernel⟩
def ph_plus : Phi := phP (fun t : Rat × Rat => Sz 4000 t.1 ∧ Sz 4000 t.2) (fun t => [.d (rD t.1), .d (rD t.2)]) (fun t => rD (t.1 + t.2))
theorem den2_ok {x y : Rat} (h : Sz 4000 x) (k : Sz 4000 y) : 0 < (x.den : Int) * (y.den : Int) ∧ ((x.den : Int) * (y.den : Int)).natAbs < 2 ^ 8000 := ⟨Int.mul_pos (dn_pos x) (dn_pos y), pw_up (pw_mulI h.dn k.dn) (by omega)⟩
theorem ok_plus {f : Addr} {fd : FuncData} (F : Fun K "plus" "plus" s_plus f fd) (d1 : Df P w K mg base 2 "lowest" ph_lowest) : FnOk P w K mg base CX0 3 f fd ["one", "other"] (SpD K ph_plus) := by
  refine fn_p F sc_plus (fun _ => rfl) fun cdv A outer s H E hr t hp μ => ?_
  obtain ⟨x, y⟩ := t
  obtain ⟨hx, hy⟩ : Sz 4000 x ∧ Sz 4000 y := hp
  refine bs_ret (ev_call d1 hr (by decide) rfl (ea_cons (ev_add (ev_mul (ev_ixT (ev_var 0 rfl rfl (.inl rfl)) ev_int rfl) (ev_ixT (ev_var 1 rfl rfl (.inl rfl)) ev_int rfl) (small_mul hx.1 hy.dn))
    (ev_mul (ev_ixT (ev_var 1 rfl rfl (.inl rfl)) ev_int rfl) (ev_ixT (ev_var 0 rfl rfl (.inl rfl)) ev_int rfl) (small_mul hy.1 hx.dn)))
    (ea_cons (ev_mul (ev_ixT (ev_var 0 rfl rfl (.inl rfl)) ev_int rfl) (ev_ixT (ev_var 1 rfl rfl (.inl rfl)) ev_int rfl) (small_mul hx.dn hy.dn)) ea_nil)) (phP.mk (_, _) (den2_ok hx hy))) ⟨mu_end _, ?_⟩
  show DE.d (rD (mkRat _ _)) = _
  rw [mk_add]
abbrev s_times : Stmt := topS 8
theorem sc_times : FnScope ["fraction", "whole"] ["fraction", "whole"] (defScope s_times) := ⟨rfl, rfl, rfl, by decide +kernel, rfl, by decide +kernel, by decide +kernel⟩
def ph_times : Phi := phP (fun t : Rat × Int => Sz 4000 t.1 ∧ t.2.natAbs < 2 ^ 4000) (fun t => [.d (rD t.1), .d (.int t.2)]) (fun t => rD (t.1 * (t.2 : Rat)))
theorem ok_times {f : Addr} {fd : FuncData} (F : Fun K "times" "times" s_times f fd) (d1 : Df P w K mg base 2 "lowest" ph_lowest) : FnOk P w K mg base CX0 3 f fd ["fraction", "whole"] (SpD K ph_times) := by
  refine fn_p F sc_times (fun _ => rfl) fun cdv A outer s H E hr t hp μ => ?_
  obtain ⟨x, n⟩ := t
  obtain ⟨hx, hn⟩ : Sz 4000 x ∧ n.natAbs < 2 ^ 4000 := hp
  refine bs_ret (ev_call d1 hr (by decide) rfl (ea_cons (ev_mul (ev_ixT (ev_var 0 rfl rfl (.inl rfl)) ev_int rfl) (ev_var 1 rfl rfl (.inl rfl)) (small_mul hx.1 hn)) (ea_cons (ev_ixT (ev_var 0 rfl rfl (.inl rfl)) ev_int rfl) ea_nil)) (phP.mk (_, _) ⟨dn_pos x, pw_up hx.dn (by omega)⟩)) ⟨mu_end _, ?_⟩
  show DE.d (rD (mkRat _ _)) = _
  rw [mk_times]
abbrev s_shared : Stmt := topS 9
theorem sc_shared : FnScope ["fraction", "whole"] ["fraction", "whole"] (defScope s_shared) := ⟨rfl, rfl, rfl, by decide +kernel, rfl, by decide +kernel, by decide +kernel⟩
def ph_shared : Phi := phP (fun t : Rat × Int => Sz 4000 t.1 ∧ 0 < t.2 ∧ t.2.natAbs < 2 ^ 4000) (fun t => [.d (rD t.1), .d (.int t.2)]) (fun t => rD (t.1 / (t.2 : Rat)))
theorem ok_shared {f : Addr} {fd : FuncData} (F : Fun K "shared" "shared" s_shared f fd) (d1 : Df P w K mg base 2 "lowest" ph_lowest) : FnOk P w K mg base CX0 3 f fd ["fraction", "whole"] (SpD K ph_shared) := by
  refine fn_p F sc_shared (fun _ => rfl) fun cdv A outer s H E hr t hp μ => ?_
  obtain ⟨x, n⟩ := t
  obtain ⟨hx, h0, hn⟩ : Sz 4000 x ∧ 0 < n ∧ n.natAbs < 2 ^ 4000 := hp
  refine bs_ret (ev_call d1 hr (by decide) rfl (ea_cons (ev_ixT (ev_var 0 rfl rfl (.inl rfl)) ev_int rfl) (ea_cons (ev_mul (ev_ixT (ev_var 0 rfl rfl (.inl rfl)) ev_int rfl) (ev_var 1 rfl rfl (.inl rfl)) (small_mul hx.dn hn)) ea_nil)) (phP.mk (_, _) ⟨Int.mul_pos (dn_pos x) h0, pw_up (pw_mulI hx.dn hn) (by omega)⟩)) ⟨mu_end _, ?_⟩
  show DE.d (rD (mkRat _ _)) = _
  rw [mk_shared x h0]
/-! ### heavy_of, heavy_with -/
abbrev s_heavy_of : Stmt := topS 12
theorem sc_heavy_of : FnScope ["folk", "name", "heavy", "reach"] ["folk"] (defScope s_heavy_of) := ⟨rfl, rfl, rfl, by decide +kernel, rfl, by decide +kernel, by decide +kernel⟩
def ph_heavy_of : Phi := phP (fun fs : List Man => fs.length ≤ 1000) (fun fs => [.d (folkD fs)]) (fun fs => .int (wt fs))
theorem ok_heavy_of {f : Addr} {fd : FuncData} (F : Fun K "heavy_of" "heavy_of" s_heavy_of f fd) (msum : mg "sum" = none) : FnOk P w K mg base CX0 1 f fd ["folk"] (SpD K ph_heavy_of) := by
  refine fn_p F sc_heavy_of (fun _ => rfl) fun cdv A outer s H E hr fs hp μ => ?_
  refine bs_ret (ev_callB (cr_sum rfl) rfl msum (by decide +kernel) (ea_cons (ev_lcm (own := [("name", 1), ("heavy", 2), ("reach", 3)]) fs manD (fun m => .int m.hv) rfl sc_heavy_of.nd (blkOk_by (N := ["folk", "name", "heavy", "reach"]) (sc := defScope s_heavy_of) (by decide +kernel)) (it_tup (ev_var 0 rfl rfl (.inl rfl))) hp fun m hm => ?_) ea_nil) (rc_sum (ns := fs.map (·.hv)) ?_)) ⟨mu_end _, rfl⟩
  · refine ⟨_, _, ?_, fun s H C cl fp => tg_tup rfl (tgl_cons (tg_name 1 sc_heavy_of.nd rfl (.inl rfl)) (tgl_cons (tg_name 2 sc_heavy_of.nd rfl (.inl rfl)) (tgl_cons (tg_name 3 sc_heavy_of.nd rfl (.inl rfl)) tgl_nil))), fun s H C cl fp => ev_var 2 rfl rfl (.inl rfl)⟩
    decide
  · show PyData.list _ = _
    rw [List.map_map]; rfl
abbrev s_heavy_with : Stmt := topS 13
theorem sc_heavy_with : FnScope ["raft", "folk"] ["raft", "folk"] (defScope s_heavy_with) := ⟨rfl, rfl, rfl, by decide +kernel, rfl, by decide +kernel, by decide +kernel⟩
def ph_heavy_with : Phi := phP (fun t : Raft × List Man => t.2.length ≤ 1000) (fun t => [.d (raftD t.1), .d (folkD t.2)]) (fun t => .int (tot t.1 t.2))
theorem ok_heavy_with {f : Addr} {fd : FuncData} (F : Fun K "heavy_with" "heavy_with" s_heavy_with f fd) (d1 : Df P w K mg base 1 "heavy_of" ph_heavy_of) : FnOk P w K mg base CX0 2 f fd ["raft", "folk"] (SpD K ph_heavy_with) := by
  refine fn_p F sc_heavy_with (fun _ => rfl) fun cdv A outer s H E hr t hp μ => ?_
  obtain ⟨r, fs⟩ := t
  exact bs_ret (ev_add (ev_ixT (ev_var 0 rfl rfl (.inl rfl)) ev_int rfl) (ev_call d1 hr (by decide) rfl (ea_cons (ev_var 1 rfl rfl (.inl rfl)) ea_nil) (phP.mk fs hp))) ⟨mu_end _, rfl⟩
/-! ### driven, front_gap -/
abbrev s_driven : Stmt := topS 14
theorem sc_driven : FnScope ["raft", "folk", "places", "moment", "name", "heavy", "reach", "place"] ["raft", "folk", "places"] (defScope s_driven) := ⟨rfl, rfl, rfl, by decide +kernel, rfl, by decide +kernel, by decide +kernel⟩
def ph_driven : Phi := phP (fun t : Raft × List Man × List Rat => Good t.1 t.2.1 t.2.2) (fun t => [.d (raftD t.1), .d (folkD t.2.1), .d (plD t.2.2)]) (fun t => rD (drv t.1 t.2.1 t.2.2))
theorem ok_driven {f : Addr} {fd : FuncData} (F : Fun K "driven" "driven" s_driven f fd) (cN : HasC K mg "NOUGHT" (rD 0)) (mzip : mg "zip" = none) (d1 : Df P w K mg base 3 "plus" ph_plus) (d2 : Df P w K mg base 3 "times" ph_times) (d3 : Df P w K mg base 3 "shared" ph_shared) (d4 : Df P w K mg base 2 "heavy_with" ph_heavy_with) :
    FnOk P w K mg base CX0 4 f fd ["raft", "folk", "places"] (SpD K ph_driven) := by
  refine fn_p F sc_driven (fun _ => rfl) fun cdv A outer s H E hr t hp μ => ?_
  obtain ⟨r, fs, ps⟩ := t
  have hp : Good r fs ps := hp
  have hln := hp.ln
  refine bs_set 3 (ev_con cN rfl) ?_ sc_driven.nd rfl (.inl rfl)
  refine bs_cons (M := fun env m => ∃ e4 e5 e6 e7, env = [some (.d (raftD r)), some (.d (folkD fs)), some (.d (plD ps)), some (.d (rD (mom fs ps))), e4, e5, e6, e7] ∧ m = μ) ?_ fun env m h => ?_
  · refine b1_for (fun i env m => ∃ e4 e5 e6 e7, env = [some (.d (raftD r)), some (.d (folkD fs)), some (.d (plD ps)), some (.d (rD (mom (fs.take i) (ps.take i)))), e4, e5, e6, e7] ∧ m = μ) (it_zip2 (ds := fs.map manD) (es := ps.map rD) (by rw [List.length_map, List.length_map]; exact hln) (ea_cons (ev_var 1 rfl rfl (.inl rfl)) (ea_cons (ev_var 2 rfl rfl (.inl rfl)) ea_nil)) rfl mzip) ⟨_, _, _, _, rfl, rfl⟩ PassesOwn.never rfl ?_ ?_
    · rintro i d env m hd ⟨e4, e5, e6, e7, rfl, rfl⟩
      rw [zip_enc] at hd
      obtain ⟨⟨mn, p⟩, hz, rfl⟩ := map_get hd
      obtain ⟨h1, h2⟩ := List.getElem?_zip_eq_some.mp hz
      have hm := hp.mn.2 mn (List.mem_of_getElem? h1)
      have hs := hp.sz p (List.mem_of_getElem? h2)
      have hmz : Sz 4000 (mom (fs.take i) (ps.take i)) := by
        refine (mom_sz (n := 240) (fun x hx => hp.mn.2 x (List.mem_of_mem_take hx)) (fun x hx => hp.sz x (List.mem_of_mem_take hx))).mono ?_
        have := hp.mn.1
        rw [List.length_take]; omega
      have h8 : mn.hv.natAbs < 2 ^ 8 := pw8 (by have := hm.1; omega) hm.2.1
      have hts : Sz 4000 (p * (mn.hv : Rat)) := (hs.mul (Sz.int (n := 8) h8 (by omega))).mono (by omega)
      refine ⟨_, _, tg_tup (ds := [manD mn, rD p]) rfl (tgl_cons (tg_tup (ds := [.str mn.nm, .int mn.hv, .int mn.rc]) rfl (tgl_cons (tg_name 4 sc_driven.nd rfl (.inl rfl)) (tgl_cons (tg_name 5 sc_driven.nd rfl (.inl rfl)) (tgl_cons (tg_name 6 sc_driven.nd rfl (.inl rfl)) tgl_nil)))) (tgl_cons (tg_name 7 sc_driven.nd rfl (.inl rfl)) tgl_nil)), ?_⟩
      refine bs_one (b1_set 3 (ev_call d1 hr (by decide) rfl (ea_cons (ev_var 3 rfl rfl (.inl rfl)) (ea_cons (ev_call d2 hr (by decide) rfl (ea_cons (ev_var 7 rfl rfl (.inl rfl)) (ea_cons (ev_var 5 rfl rfl (.inl rfl)) ea_nil)) (phP.mk (p, mn.hv) ⟨hs.mono (by omega), pw_up h8 (by omega)⟩)) ea_nil)) (phP.mk (mom (fs.take i) (ps.take i), p * (mn.hv : Rat)) ⟨hmz, hts⟩)) (by show ∃ _ _ _ _, _; rw [mom_take h1 h2]; exact ⟨_, _, _, _, rfl, rfl⟩) sc_driven.nd rfl (.inl rfl))
    · rintro env m ⟨e4, e5, e6, e7, rfl, rfl⟩
      refine ⟨e4, e5, e6, e7, ?_, rfl⟩
      rw [zip_enc, List.length_map, List.length_zip, ← hln, Nat.min_self, List.take_of_length_le (Nat.le_refl _), List.take_of_length_le (by omega)]
  · obtain ⟨e4, e5, e6, e7, rfl, rfl⟩ := h
    have ht := tot_bd hp.rf hp.mn
    refine bs_ret (ev_call d3 hr (by decide) rfl (ea_cons (ev_var 3 rfl rfl (.inl rfl)) (ea_cons (ev_call d4 hr (by decide) rfl (ea_cons (ev_var 0 rfl rfl (.inl rfl)) (ea_cons (ev_var 1 rfl rfl (.inl rfl)) ea_nil)) (phP.mk (r, fs) (show fs.length ≤ 1000 by have := hp.mn.1; omega))) ea_nil)) (phP.mk (mom fs ps, tot r fs) ⟨?_, ?_, ?_⟩)) ⟨mu_end _, rfl⟩
    · refine (mom_sz hp.mn.2 hp.sz).mono ?_
      have := hp.mn.1
      omega
    · show 0 < tot r fs; omega
    · exact pw_up (show (tot r fs).natAbs < 2 ^ 12 by omega) (by omega)
abbrev s_front_gap : Stmt := topS 15
theorem sc_front_gap : FnScope ["raft", "folk", "standing", "gap", "places"] ["raft", "folk", "standing"] (defScope s_front_gap) := ⟨rfl, rfl, rfl, by decide +kernel, rfl, by decide +kernel, by decide +kernel⟩
def ph_front_gap : Phi := phP (fun t : Raft × List Man × Rat × List Rat => Good t.1 t.2.1 t.2.2.2 ∧ Sz 350 t.2.2.1) (fun t => [.d (raftD t.1), .d (folkD t.2.1), .d (stD t.2.2.1 t.2.2.2)]) (fun t => rD (front t.1 t.2.1 t.2.2.1 t.2.2.2))
theorem ok_front_gap {f : Addr} {fd : FuncData} (F : Fun K "front_gap" "front_gap" s_front_gap f fd) (d1 : Df P w K mg base 3 "plus" ph_plus) (d2 : Df P w K mg base 4 "driven" ph_driven) : FnOk P w K mg base CX0 5 f fd ["raft", "folk", "standing"] (SpD K ph_front_gap) := by
  refine fn_p F sc_front_gap (fun _ => rfl) fun cdv A outer s H E hr t hp μ => ?_
  obtain ⟨r, fs, g, ps⟩ := t
  obtain ⟨hp, hg⟩ : Good r fs ps ∧ Sz 350 g := hp
  refine bs_then (b1_asg (ev_var 2 rfl rfl (.inl rfl)) (tg_tup (ds := [rD g, plD ps]) rfl (tgl_cons (tg_name 3 sc_front_gap.nd rfl (.inl rfl)) (tgl_cons (tg_name 4 sc_front_gap.nd rfl (.inl rfl)) tgl_nil))) ?_)
  exact bs_ret (ev_call d1 hr (by decide) rfl (ea_cons (ev_var 3 rfl rfl (.inl rfl)) (ea_cons (ev_call d2 hr (by decide) rfl (ea_cons (ev_var 0 rfl rfl (.inl rfl)) (ea_cons (ev_var 1 rfl rfl (.inl rfl)) (ea_cons (ev_var 4 rfl rfl (.inl rfl)) ea_nil))) (phP.mk (r, fs, ps) hp)) ea_nil)) (phP.mk (g, drv r fs ps) ⟨hg.mono (by omega), (drv_sz hp.rf hp.mn hp.sz).mono (by omega)⟩)) ⟨mu_end _, rfl⟩
/-! ### what is what -/
abbrev s_is_whole : Stmt := topS 2
theorem sc_is_whole : FnScope ["thing"] ["thing"] (defScope s_is_whole) := ⟨rfl, rfl, rfl, by decide +kernel, rfl, by decide +kernel, by decide +kernel⟩
def ph_is_whole : Phi := phP (fun _ : Dt => True) (fun d => [.d d]) (fun d => .bool (wholeB d))
theorem ok_is_whole {f : Addr} {fd : FuncData} (F : Fun K "is_whole" "is_whole" s_is_whole f fd) (misi : mg "isinstance" = none) (mint : mg "int" = none) (mbool : mg "bool" = none) : FnOk P w K mg base CX0 1 f fd ["thing"] (SpD K ph_is_whole) := by
  refine fn_p F sc_is_whole (fun _ => rfl) fun cdv A outer s H E hr d _ μ => ?_
  refine bs_ret (x := .d (.bool (isIntD d && !isBoolD d))) (ev_and (ev_isi (ev_var 0 rfl rfl (.inl rfl)) rfl (kit_int d) rfl misi rfl mint (by decide +kernel)) (fun e => ?_) (fun e => ⟨rfl, by rw [e]; rfl⟩)) ⟨mu_end _, by rw [whole_so]⟩
  rw [e]
  exact ev_one (ev_not (ev_isi (ev_var 0 rfl rfl (.inl rfl)) rfl (kit_bool d) rfl misi rfl mbool (by decide +kernel)))
abbrev s_is_tuple_of : Stmt := topS 3
theorem sc_is_tuple_of : FnScope ["thing", "many"] ["thing", "many"] (defScope s_is_tuple_of) := ⟨rfl, rfl, rfl, by decide +kernel, rfl, by decide +kernel, by decide +kernel⟩
def ph_is_tuple_of : Phi := phP (fun _ : Dt × Int => True) (fun t => [.d t.1, .d (.int t.2)]) (fun t => .bool (tupB t.1 t.2))
theorem ok_is_tuple_of {f : Addr} {fd : FuncData} (F : Fun K "is_tuple_of" "is_tuple_of" s_is_tuple_of f fd) (misi : mg "isinstance" = none) (mtup : mg "tuple" = none) (mlen : mg "len" = none) : FnOk P w K mg base CX0 1 f fd ["thing", "many"] (SpD K ph_is_tuple_of) := by
  refine fn_p F sc_is_tuple_of (fun _ => rfl) fun cdv A outer s H E hr t _ μ => ?_
  obtain ⟨d, n⟩ := t
  refine bs_ret (x := .d (.bool (tupB d n))) (ev_and (ev_isi (ev_var 0 rfl rfl (.inl rfl)) rfl (kit_tup d) rfl misi rfl mtup (by decide +kernel)) (fun e => ?_) (fun e => ⟨rfl, ?_⟩)) ⟨mu_end _, rfl⟩
  · cases d with
    | tuple xs =>
      show Ev _ _ _ _ _ (.d (.bool (decide ((xs.length : Int) = n))))
      rw [← eqv_int]
      exact ev_one (ev_cmp (ev_callB call_len_seq rfl mlen PySem.boot_len (ea_cons (ev_var 0 rfl rfl (.inl rfl)) ea_nil) rc_lenT) (ev_var 1 rfl rfl (.inl rfl)) (c_eq hr.units rfl rfl (shaped_int _) (shaped_int _)) rfl)
    | _ => cases e
  · cases d with
    | tuple xs => cases e
    | _ => rfl
abbrev s_is_fraction : Stmt := topS 5
theorem sc_is_fraction : FnScope ["thing", "top", "bottom"] ["thing"] (defScope s_is_fraction) := ⟨rfl, rfl, rfl, by decide +kernel, rfl, by decide +kernel, by decide +kernel⟩
def ph_is_fraction : Phi := phP (fun _ : Dt => True) (fun d => [.d d]) (fun d => .bool (fracB d))
theorem ok_is_fraction {f : Addr} {fd : FuncData} (F : Fun K "is_fraction" "is_fraction" s_is_fraction f fd) (d1 : Df P w K mg base 1 "is_tuple_of" ph_is_tuple_of) (d2 : Df P w K mg base 1 "is_whole" ph_is_whole) (d3 : Df P w K mg base 1 "common_divisor" ph_common_divisor) : FnOk P w K mg base CX0 2 f fd ["thing"] (SpD K ph_is_fraction) := by
  refine fn_p F sc_is_fraction (fun _ => rfl) fun cdv A outer s H E hr d _ μ => ?_
  refine bs_then (b1_if (k := !tupB d 2) (et_not (et_val (ev_call d1 hr (by decide) rfl (ea_cons (ev_var 0 rfl rfl (.inl rfl)) (ea_cons ev_int ea_nil)) (phP.mk (d, 2) True.intro)) (by intro _; rfl))) (fun e => ?_) (fun e => ?_))
  · refine bs_ret ev_bl ⟨mu_end _, ?_⟩
    rw [frac_no (by simpa using e)]
  · have e : tupB d 2 = true := by simpa using e
    obtain ⟨xs, rfl, hl⟩ := tup_so e
    obtain ⟨t, b, rfl⟩ := len2 hl
    refine bs_nil ?_
    refine bs_then (b1_asg (ev_var 0 rfl rfl (.inl rfl)) (tg_tup (ds := [t, b]) rfl (tgl_cons (tg_name 1 sc_is_fraction.nd rfl (.inl rfl)) (tgl_cons (tg_name 2 sc_is_fraction.nd rfl (.inl rfl)) tgl_nil))) ?_)
    refine bs_then (b1_if (k := !wholeB t || (!wholeB b || (decide (intOf t < 0) || decide (intOf b < 1)))) (et_w (ew_or (k := !wholeB t) (et_not (et_val (ev_call d2 hr (by decide) rfl (ea_cons (ev_var 1 rfl rfl (.inl rfl)) ea_nil) (phP.mk t True.intro)) (by intro _; rfl))) (fun e1 => ew_or (k := !wholeB b) (et_not (et_val (ev_call d2 hr (by decide) rfl (ea_cons (ev_var 2 rfl rfl (.inl rfl)) ea_nil) (phP.mk b True.intro)) (by intro _; rfl))) (fun e2 => ?_) (fun _ => rfl)) (fun _ => rfl))) (fun e => ?_) (fun e => ?_))
    · obtain ⟨i, rfl⟩ := whole_int (d := t) (by simpa using e1)
      obtain ⟨j, rfl⟩ := whole_int (d := b) (by simpa using e2)
      exact ew_or (et_cmp (ev_var 1 rfl rfl (.inl rfl)) ev_int c_lt rfl) (fun _ => ew_or1 (et_cmp (ev_var 2 rfl rfl (.inl rfl)) ev_int c_lt rfl)) (fun _ => rfl)
    · refine bs_ret ev_bl ⟨mu_end _, ?_⟩
      show _ = DE.d (.bool (fracP t b))
      unfold fracP
      rw [e]; rfl
    · have hf : fracP t b = decide (Nat.gcd (intOf t).toNat (intOf b).toNat = 1) := by unfold fracP; rw [e]; rfl
      rw [Bool.or_eq_false_iff, Bool.or_eq_false_iff, Bool.or_eq_false_iff] at e
      obtain ⟨h1, h2, h3, h4⟩ := e
      obtain ⟨i, rfl⟩ := whole_int (d := t) (by simpa using h1)
      obtain ⟨j, rfl⟩ := whole_int (d := b) (by simpa using h2)
      have h3 : ¬ i < 0 := of_decide_eq_false h3
      have h4 : ¬ j < 1 := of_decide_eq_false h4
      refine bs_nil (bs_ret (ev_cmp (ev_call d3 hr (by decide) rfl (ea_cons (ev_var 1 rfl rfl (.inl rfl)) (ea_cons (ev_var 2 rfl rfl (.inl rfl)) ea_nil)) (phP.mk (i, j) ⟨show 0 ≤ i by omega, show 0 ≤ j by omega⟩)) ev_int (c_eq hr.units rfl rfl (shaped_int _) (shaped_int _)) rfl) ⟨mu_end _, ?_⟩)
      show DE.d (.bool (PyData.eqv (.int ((Nat.gcd i.toNat j.toNat : Nat) : Int)) (.int 1))) = DE.d (.bool (fracP (.int i) (.int j)))
      rw [hf, eqv_int]
      congr 2
      rw [decide_eq_decide]
      show ((Nat.gcd i.toNat j.toNat : Nat) : Int) = 1 ↔ Nat.gcd i.toNat j.toNat = 1
      omega
/-! ### stepping off -/
abbrev s_index_of : Stmt := topS 17
theorem sc_index_of : FnScope ["folk", "name", "at", "one"] ["folk", "name"] (defScope s_index_of) := ⟨rfl, rfl, rfl, by decide +kernel, rfl, by decide +kernel, by decide +kernel⟩
def ph_index_of : Phi := phP (fun t : List Man × Str => NmOk t.1 ∧ PyData.canLay0 (.str t.2) = true) (fun t => [.d (folkD t.1), .d (.str t.2)]) (fun t => ixD (ixOf t.1 t.2))
theorem ok_index_of {f : Addr} {fd : FuncData} (F : Fun K "index_of" "index_of" s_index_of f fd) (menum : mg "enumerate" = none) : FnOk P w K mg base CX0 1 f fd ["folk", "name"] (SpD K ph_index_of) := by
  refine fn_p F sc_index_of (fun _ => rfl) fun cdv A outer s H E hr t hp μ => ?_
  obtain ⟨fs, nm⟩ := t
  obtain ⟨hn, hs⟩ : NmOk fs ∧ PyData.canLay0 (.str nm) = true := hp
  refine bs_cons (M := fun env m => m = μ ∧ ∀ x ∈ fs, x.nm ≠ nm) ?_ fun env m h => ?_
  · refine b1_for (fun i env m => (∃ e2 e3, env = [some (.d (folkD fs)), some (.d (.str nm)), e2, e3]) ∧ m = μ ∧ ∀ x ∈ fs.take i, x.nm ≠ nm) (it_enum (k := false) (ds := fs.map manD) (ea_cons (ev_var 0 rfl rfl (.inl rfl)) ea_nil) rfl menum) ⟨⟨_, _, rfl⟩, rfl, by simp⟩ PassesOwn.never rfl ?_ ?_
    · rintro i d env m hd ⟨⟨e2, e3, rfl⟩, rfl, hno⟩
      obtain ⟨x, hx, rfl⟩ := enumD_get hd
      obtain ⟨mn, hm, rfl⟩ := map_get hx
      refine ⟨_, _, tg_tup (ds := [.int (i : Int), manD mn]) rfl (tgl_cons (tg_name 2 sc_index_of.nd rfl (.inl rfl)) (tgl_cons (tg_name 3 sc_index_of.nd rfl (.inl rfl)) tgl_nil)), ?_⟩
      refine bs_one (b1_if (k := decide (mn.nm = nm)) (by
        rw [← eqv_str]
        exact et_cmp (ev_ixT (ds := [.str mn.nm, .int mn.hv, .int mn.rc]) (ev_var 3 rfl rfl (.inl rfl)) ev_int rfl) (ev_var 1 rfl rfl (.inl rfl)) (c_eq hr.units rfl rfl ((lay_str (hn mn (List.mem_of_getElem? hm))).sh (by omega)) ((lay_str hs).sh (by omega))) rfl) (fun e => ?_) (fun e => ?_))
      · have e := of_decide_eq_true e
        refine bs_ret (ev_var 2 rfl rfl (.inl rfl)) ⟨mu_end _, ?_⟩
        have : ixOf fs nm = some i := by
          unfold ixOf
          rw [List.findIdx?_eq_some_iff_getElem]
          have hi := lt_get hm
          refine ⟨hi, ?_, fun j hj => ?_⟩
          · rw [List.getElem?_eq_getElem hi] at hm
            rw [Option.some.inj hm]; exact decide_eq_true e
          · have hjl : j < fs.length := by omega
            have : fs[j] ∈ fs.take i := List.mem_of_getElem? (i := j) (by rw [List.getElem?_take_of_lt hj, List.getElem?_eq_getElem hjl])
            rw [decide_eq_false (hno _ this)]; simp
        show _ = DE.d (ixD (ixOf fs nm))
        rw [this]; rfl
      · have e := of_decide_eq_false e
        refine bs_nil ⟨⟨_, _, rfl⟩, rfl, fun x hx => ?_⟩
        rw [List.take_add_one, hm] at hx
        rcases List.mem_append.mp hx with z | z
        · exact hno x z
        · have z : x = mn := by simpa using z
          rw [z]; exact e
    · rintro env m ⟨_, rfl, hno⟩
      refine ⟨rfl, fun x hx => hno x ?_⟩
      rw [enumD_len, List.length_map, List.take_of_length_le (Nat.le_refl _)]; exact hx
  · obtain ⟨rfl, hno⟩ := h
    refine bs_ret ev_non ⟨mu_end _, ?_⟩
    have : ixOf fs nm = none := by
      unfold ixOf
      rw [List.findIdx?_eq_none_iff]
      intro x hx
      exact decide_eq_false (hno x hx)
    show _ = DE.d (ixD (ixOf fs nm))
    rw [this]; rfl
abbrev s_without : Stmt := topS 18
theorem sc_without : FnScope ["things", "at"] ["things", "at"] (defScope s_without) := ⟨rfl, rfl, rfl, by decide +kernel, rfl, by decide +kernel, by decide +kernel⟩
def ph_without : Phi := phP (fun t : List Dt × Nat => t.2 < t.1.length ∧ t.1.length ≤ 400) (fun t => [.d (.tuple t.1), .d (.int (t.2 : Int))]) (fun t => .tuple (dropAt t.1 t.2))
theorem ok_without {f : Addr} {fd : FuncData} (F : Fun K "without" "without" s_without f fd) : FnOk P w K mg base CX0 1 f fd ["things", "at"] (SpD K ph_without) := by
  refine fn_p F sc_without (fun _ => rfl) fun cdv A outer s H E hr t hp μ => ?_
  obtain ⟨ds, j⟩ := t
  obtain ⟨hj, hl⟩ : j < ds.length ∧ ds.length ≤ 400 := hp
  refine bs_ret (ev_addT (ev_slT (ev_var 0 rfl rfl (.inl rfl)) eo_none (eo_some (ev_var 1 rfl rfl (.inl rfl)))) (ev_slT (ev_var 0 rfl rfl (.inl rfl)) (eo_some (ev_add (ev_var 1 rfl rfl (.inl rfl)) ev_int)) eo_none) ?_) ⟨mu_end _, ?_⟩
  · show (cutD ds none (some (j : Int))).length + (cutD ds (some ((j : Int) + 1)) none).length ≤ sizeLine
    have e : ((j : Int) + 1) = ((j + 1 : Nat) : Int) := by omega
    rw [cut_to _ (by omega), e, cut_from _ (by omega), List.length_take, List.length_drop]
    exact ln (by omega)
  · show DE.d (.tuple (cutD ds none (some (j : Int)) ++ cutD ds (some ((j : Int) + 1)) none)) = _
    have e : ((j : Int) + 1) = ((j + 1 : Nat) : Int) := by omega
    rw [cut_to _ (by omega), e, cut_from _ (by omega), Int.toNat_natCast]
    rfl
/-! ### the bag, drawing -/
abbrev s_bag : Stmt := topS 30
theorem sc_bag : FnScope ["script", "k", "cell"] ["script", "k"] (defScope s_bag) := ⟨rfl, rfl, rfl, by decide +kernel, rfl, by decide +kernel, by decide +kernel⟩
def ph_bag : Phi := fun xs μ μ' r => ∃ (ns : List Int) (k : Nat), xs = [.d (.list (ns.map .int)), .d (.int (k : Int))] ∧ k ≤ 1000 ∧ μ' = μ ++ [some (bagOf ns k).d] ∧ r = .c μ.length
theorem cell_at {ns : List Int} {k : Nat} {n : Int} (h : ns[k]? = some n) : cellOf ns k = if n < 0 then -n else n := by unfold cellOf; rw [h]
theorem ok_bag {f : Addr} {fd : FuncData} (F : Fun K "_law_bag" "_law_bag" s_bag f fd) (mlen : mg "len" = none) (mabs : mg "abs" = none) : FnOk P w K mg base CX0 1 f fd ["script", "k"] (SpD K ph_bag) := by
  refine fn_d F sc_bag (fun xs μ μ' r h => ?_) (fun cdv A outer s H E hr xs μ μ' r h => ?_) (fun xs μ μ' r h => ?_)
  · obtain ⟨ns, k, rfl, _⟩ := h; rfl
  · obtain ⟨ns, k, rfl, hk, rfl, rfl⟩ := h
    refine bs_set 2 ev_int ?_ sc_bag.nd rfl (.inl rfl)
    refine bs_cons (M := fun env m => env = [some (.d (.list (ns.map .int))), some (.d (.int (k : Int))), some (.d (.int (cellOf ns k)))] ∧ m = μ) (b1_if (et_cmp (ev_var 1 rfl rfl (.inl rfl)) (ev_callB call_len_seq rfl mlen PySem.boot_len (ea_cons (ev_var 0 rfl rfl (.inl rfl)) ea_nil) (rc_lenL rfl)) c_lt rfl) (fun e => ?_) (fun e => ?_)) fun env m h => ?_
    · have e : (k : Int) < ((ns.map PyData.int).length : Int) := of_decide_eq_true e
      rw [List.length_map] at e
      have hkl : k < ns.length := by omega
      have hg : ns[k]? = some ns[k] := List.getElem?_eq_getElem hkl
      have ha : atI (ns.map PyData.int) (k : Int) = some (.int ns[k]) := atI_nat (by rw [List.getElem?_map, hg]; rfl)
      refine bs_one (b1_set 2 (ev_callB call_abs rfl mabs boot_abs (ea_cons (ev_ixL (ev_var 0 rfl rfl (.inl rfl)) (ev_var 1 rfl rfl (.inl rfl)) rfl ha) ea_nil) rc_abs) ⟨?_, rfl⟩ sc_bag.nd rfl (.inl rfl))
      rw [cell_at hg]; rfl
    · have e : ¬ (k : Int) < ((ns.map PyData.int).length : Int) := of_decide_eq_false e
      rw [List.length_map] at e
      have hc : cellOf ns k = 0 := by
        unfold cellOf
        rw [List.getElem?_eq_none_iff.mpr (by omega)]
      refine bs_nil ⟨?_, rfl⟩
      rw [hc]; rfl
    · obtain ⟨rfl, rfl⟩ := h
      have h0 := cell_nn ns k
      refine bs_then (b1_if (et_cmp (ev_var 2 rfl rfl (.inl rfl)) (ev_pow ev_int ev_int ⟨by decide, by decide, by decide⟩) c_lt rfl) (fun e => ?_) (fun e => ?_))
      · have e : cellOf ns k < 10 ^ 18 := of_decide_eq_true e
        have hb : (bagOf ns k).d = Cl.lst [.int 0, .int (1 + (cellOf ns k * 7919 + 104729 * (k : Int)) % 2147483646)] := by unfold bagOf; rw [if_pos e]; rfl
        rw [hb]
        exact bs_ret (ev_lstC (ds := [.int 0, .int (1 + (cellOf ns k * 7919 + 104729 * (k : Int)) % 2147483646)]) (ea_cons ev_int (ea_cons (ev_add ev_int (ev_mod (ev_add (ev_mul (ev_var 2 rfl rfl (.inl rfl)) ev_int (small_mul (sm (by omega) (by omega)) (sm (by omega) (by omega)))) (ev_mul ev_int (ev_var 1 rfl rfl (.inl rfl)) (small_mul (sm (by omega) (by omega)) (sm (by omega) (by omega))))) ev_int (by omega))) ea_nil)) (ln (by simp))) ⟨⟨[], (List.append_nil _).symm⟩, rfl, fun c z => by cases z; rw [List.length_append]; exact Nat.lt_succ_self _⟩
      · have e : ¬ cellOf ns k < 10 ^ 18 := of_decide_eq_false e
        have hb : (bagOf ns k).d = Cl.lst [.int (cellOf ns k), .int (1 + (cellOf ns k + (k : Int)) % 2147483646)] := by unfold bagOf; rw [if_neg e]; rfl
        rw [hb]
        exact bs_nil (bs_ret (ev_lstC (ds := [.int (cellOf ns k), .int (1 + (cellOf ns k + (k : Int)) % 2147483646)]) (ea_cons (ev_var 2 rfl rfl (.inl rfl)) (ea_cons (ev_add ev_int (ev_mod (ev_add (ev_var 2 rfl rfl (.inl rfl)) (ev_var 1 rfl rfl (.inl rfl))) ev_int (by omega))) ea_nil)) (ln (by simp))) ⟨⟨[], (List.append_nil _).symm⟩, rfl, fun c z => by cases z; rw [List.length_append]; exact Nat.lt_succ_self _⟩)
  · obtain ⟨ns, k, rfl, _, rfl, rfl⟩ := h
    rw [List.length_append]; exact Nat.le_add_right _ _
abbrev s_take : Stmt := topS 31
theorem sc_take : FnScope ["bag", "many", "found"] ["bag", "many"] (defScope s_take) := ⟨rfl, rfl, rfl, by decide +kernel, rfl, by decide +kernel, by decide +kernel⟩
def ph_take : Phi := phB (fun n : Int => 0 < n ∧ n < 2 ^ 60) (fun n => [.d (.int n)]) (fun n s => takeB s n) (fun n s => .int (takeV s n))
theorem ok_take {f : Addr} {fd : FuncData} (F : Fun K "_law_take" "_law_take" s_take f fd) : FnOk P w K mg base CX0 1 f fd ["bag", "many"] (SpD K ph_take) := by
  refine fn_b F sc_take (fun _ => rfl) fun cdv A outer s H E hr n hp μ k s hs hk => ?_
  obtain ⟨h0, h60⟩ : 0 < n ∧ n < 2 ^ 60 := hp
  obtain ⟨ha, hb, hb'⟩ := hs
  refine bs_then (b1_if (k := decide (0 < s.a)) (et_cmp (ev_ixL (ev_var 0 rfl rfl (.inl rfl)) ev_int ⟨_, hk, rfl⟩ rfl) ev_int c_gt rfl) (fun e => ?_) (fun e => ?_))
  · have e : 0 < s.a := of_decide_eq_true e
    refine bs_set 2 (ev_mod (ev_ixL (ev_var 0 rfl rfl (.inl rfl)) ev_int ⟨_, hk, rfl⟩ rfl) (ev_var 1 rfl rfl (.inl rfl)) h0) ?_ sc_take.nd rfl (.inl rfl)
    refine bs_then (b1_put (ev_div (ev_ixL (ev_var 0 rfl rfl (.inl rfl)) ev_int ⟨_, hk, rfl⟩ rfl) (ev_var 1 rfl rfl (.inl rfl)) (div_ok h0 (sm (by omega) (by omega)))) (ev_var 0 rfl rfl (.inl rfl)) ev_int hk rfl ?_)
    refine bs_ret (ev_var 2 rfl rfl (.inl rfl)) ⟨⟨[], ?_⟩, ?_⟩
    · show _ = μ.set k (some (takeB s n).d) ++ []
      rw [List.append_nil]; unfold takeB; rw [if_pos e]; rfl
    · show _ = DE.d (.int (takeV s n))
      unfold takeV; rw [if_pos e]
  · have e : ¬ 0 < s.a := of_decide_eq_false e
    have hm1 : 0 ≤ s.b * 48271 % 2147483647 := Int.emod_nonneg _ (by omega)
    have hm2 : s.b * 48271 % 2147483647 < 2147483647 := Int.emod_lt_of_pos _ (by omega)
    refine bs_nil ?_
    refine bs_then (b1_put (ev_mod (ev_mul (ev_ixL (ev_var 0 rfl rfl (.inl rfl)) ev_int ⟨_, hk, rfl⟩ rfl) ev_int (small_mul (sm (by omega) (by omega)) (sm (by omega) (by omega)))) ev_int (by omega)) (ev_var 0 rfl rfl (.inl rfl)) ev_int hk rfl ?_)
    have hk' : (μ.set k (some (Cl.lst (List.set s.l 1 (.int (s.b * 48271 % 2147483647))))))[k]? = some (some (Cl.lst [.int s.a, .int (s.b * 48271 % 2147483647)])) := bag_at hk
    refine bs_ret (ev_mod (ev_div (ev_mod (ev_mul (ev_ixL (ev_var 0 rfl rfl (.inl rfl)) ev_int ⟨_, hk', rfl⟩ rfl) (ev_ixL (ev_var 0 rfl rfl (.inl rfl)) ev_int ⟨_, hk', rfl⟩ rfl) (small_mul (sm (by omega) (by omega)) (sm (by omega) (by omega)))) ev_int (by omega)) ev_int (div_ok (by omega) (sm (by omega) (by omega)))) (ev_var 1 rfl rfl (.inl rfl)) h0) ⟨⟨[], ?_⟩, ?_⟩
    · show _ = μ.set k (some (takeB s n).d) ++ []
      rw [List.append_nil]; unfold takeB; rw [if_neg e]; rfl
    · show _ = DE.d (.int (takeV s n))
      unfold takeV; rw [if_neg e]
/-! ### the law's own fractions -/
abbrev s_llowest : Stmt := topS 35
theorem sc_llowest : FnScope ["top", "bottom", "one", "other"] ["top", "bottom"] (defScope s_llowest) := ⟨rfl, rfl, rfl, by decide +kernel, rfl, by decide +kernel, by decide +kernel⟩
def ph_llowest : Phi := phP (fun t : Int × Int => 0 < t.2 ∧ t.2.natAbs < 2 ^ 8000) (fun t => [.d (.int t.1), .d (.int t.2)]) (fun t => rD (mkRat t.1 t.2.toNat))
theorem labs_so (t : Int) : (if t < 0 then -t else t) = (t.natAbs : Int) := by split <;> omega
theorem lgcd_div_ok {t b : Int} (hb : 0 < b) (h : b.natAbs < 2 ^ 8000) (i : Int) : CDivW i ((Nat.gcd t.natAbs b.toNat : Nat) : Int) := by
  have h1 : 0 < Nat.gcd t.natAbs b.toNat := Nat.gcd_pos_of_pos_right _ (by omega)
  have h2 : Nat.gcd t.natAbs b.toNat ≤ b.toNat := Nat.gcd_le_right _ (by omega)
  exact div_ok9 (by omega) (Nat.lt_of_le_of_lt (by omega) h)
theorem ok_llowest {f : Addr} {fd : FuncData} (F : Fun K "_law_lowest" "_law_lowest" s_llowest f fd) (mabs : mg "abs" = none) : FnOk P w K mg base CX0 1 f fd ["top", "bottom"] (SpD K ph_llowest) := by
  refine fn_p F sc_llowest (fun _ => rfl) fun cdv A outer s H E hr t hp μ => ?_
  obtain ⟨t, b⟩ := t
  obtain ⟨hb, hz⟩ : 0 < b ∧ b.natAbs < 2 ^ 8000 := hp
  refine bs_then (b1_par 2 3 (ea_cons (ev_callB call_abs rfl mabs boot_abs (ea_cons (ev_var 0 rfl rfl (.inl rfl)) ea_nil) rc_abs) (ea_cons (ev_var 1 rfl rfl (.inl rfl)) ea_nil)) ?_ rfl sc_llowest.nd rfl rfl (by decide) rfl rfl)
  refine bs_cons (M := fun env m => env = [some (.d (.int t)), some (.d (.int b)), some (.d (.int (Nat.gcd t.natAbs b.toNat : Nat))), some (.d (.int 0))] ∧ m = μ) ?_ fun env m h => ?_
  · refine b1_while (fun env m => ∃ x y, env = [some (.d (.int t)), some (.d (.int b)), some (.d (.int x)), some (.d (.int y))] ∧ GcdI (t.natAbs : Int) b x y ∧ m = μ) env4i ⟨(if t < 0 then -t else t), b, rfl, ⟨by rw [labs_so]; omega, by omega, by rw [labs_so]⟩, rfl⟩ PassesOwn.never ?_
    rintro env m ⟨x, y, rfl, hg, rfl⟩
    refine ⟨decide (0 < y), et_cmp (ev_var 3 rfl rfl (.inl rfl)) ev_int c_gt rfl, fun e => ?_, fun e => ?_⟩
    · have e : 0 < y := of_decide_eq_true e
      obtain ⟨h1, h2⟩ := hg.turn e
      exact bs_one (b1_par 2 3 (ea_cons (ev_var 3 rfl rfl (.inl rfl)) (ea_cons (ev_mod (ev_var 2 rfl rfl (.inl rfl)) (ev_var 3 rfl rfl (.inl rfl)) e) ea_nil)) ⟨⟨_, _, rfl, h1, rfl⟩, h2⟩ rfl sc_llowest.nd rfl rfl (by decide) rfl rfl)
    · have e : ¬ 0 < y := of_decide_eq_false e
      have e0 : y = 0 := by have := hg.hy; omega
      have es := hg.stop e
      subst e0
      rw [es, Int.toNat_natCast]
      exact ⟨rfl, rfl⟩
  · obtain ⟨rfl, rfl⟩ := h
    refine bs_ret (ev_tup (ds := [.int _, .int _]) (ea_cons (ev_div (ev_var 0 rfl rfl (.inl rfl)) (ev_var 2 rfl rfl (.inl rfl)) (lgcd_div_ok hb hz _)) (ea_cons (ev_div (ev_var 1 rfl rfl (.inl rfl)) (ev_var 2 rfl rfl (.inl rfl)) (lgcd_div_ok hb hz _)) ea_nil)) (ln (by simp))) ⟨mu_end _, ?_⟩
    rw [mk_num hb, mk_den hb]
    rfl
abbrev s_lplus : Stmt := topS 36
theorem sc_lplus : FnScope ["one", "other"] ["one", "other"] (defScope s_lplus) := ⟨rfl, rfl, rfl, by decide +kernel, rfl, by decide +kernel, by decide +kernel⟩
def ph_lplus : Phi := phP (fun t : Rat × Rat => Sz 4000 t.1 ∧ Sz 4000 t.2) (fun t => [.d (rD t.1), .d (rD t.2)]) (fun t => rD (t.1 + t.2))
theorem lden2_ok {x y : Rat} (h : Sz 4000 x) (k : Sz 4000 y) : 0 < (x.den : Int) * (y.den : Int) ∧ ((x.den : Int) * (y.den : Int)).natAbs < 2 ^ 8000 := ⟨Int.mul_pos (dn_pos x) (dn_pos y), pw_up (pw_mulI h.dn k.dn) (by omega)⟩
theorem ok_lplus {f : Addr} {fd : FuncData} (F : Fun K "_law_plus" "_law_plus" s_lplus f fd) (d1 : Df P w K mg base 1 "_law_lowest" ph_llowest) : FnOk P w K mg base CX0 2 f fd ["one", "other"] (SpD K ph_lplus) := by
  refine fn_p F sc_lplus (fun _ => rfl) fun cdv A outer s H E hr t hp μ => ?_
  obtain ⟨x, y⟩ := t
  obtain ⟨hx, hy⟩ : Sz 4000 x ∧ Sz 4000 y := hp
  refine bs_ret (ev_call d1 hr (by decide) rfl (ea_cons (ev_add (ev_mul (ev_ixT (ev_var 0 rfl rfl (.inl rfl)) ev_int rfl) (ev_ixT (ev_var 1 rfl rfl (.inl rfl)) ev_int rfl) (small_mul hx.1 hy.dn))
    (ev_mul (ev_ixT (ev_var 1 rfl rfl (.inl rfl)) ev_int rfl) (ev_ixT (ev_var 0 rfl rfl (.inl rfl)) ev_int rfl) (small_mul hy.1 hx.dn)))
    (ea_cons (ev_mul (ev_ixT (ev_var 0 rfl rfl (.inl rfl)) ev_int rfl) (ev_ixT (ev_var 1 rfl rfl (.inl rfl)) ev_int rfl) (small_mul hx.dn hy.dn)) ea_nil)) (phP.mk (_, _) (lden2_ok hx hy))) ⟨mu_end _, ?_⟩
  show DE.d (rD (mkRat _ _)) = _
  rw [mk_add]
abbrev s_lminus : Stmt := topS 37
theorem sc_lminus : FnScope ["one", "other"] ["one", "other"] (defScope s_lminus) := ⟨rfl, rfl, rfl, by decide +kernel, rfl, by decide +kernel, by decide +kernel⟩
def ph_lminus : Phi := phP (fun t : Rat × Rat => Sz 4000 t.1 ∧ Sz 4000 t.2) (fun t => [.d (rD t.1), .d (rD t.2)]) (fun t => rD (t.1 - t.2))
theorem mden2_ok {x y : Rat} (h : Sz 4000 x) (k : Sz 4000 y) : 0 < (x.den : Int) * (y.den : Int) ∧ ((x.den : Int) * (y.den : Int)).natAbs < 2 ^ 8000 := ⟨Int.mul_pos (dn_pos x) (dn_pos y), pw_up (pw_mulI h.dn k.dn) (by omega)⟩
theorem ok_lminus {f : Addr} {fd : FuncData} (F : Fun K "_law_minus" "_law_minus" s_lminus f fd) (d1 : Df P w K mg base 1 "_law_lowest" ph_llowest) : FnOk P w K mg base CX0 2 f fd ["one", "other"] (SpD K ph_lminus) := by
  refine fn_p F sc_lminus (fun _ => rfl) fun cdv A outer s H E hr t hp μ => ?_
  obtain ⟨x, y⟩ := t
  obtain ⟨hx, hy⟩ : Sz 4000 x ∧ Sz 4000 y := hp
  refine bs_ret (ev_call d1 hr (by decide) rfl (ea_cons (ev_sub (ev_mul (ev_ixT (ev_var 0 rfl rfl (.inl rfl)) ev_int rfl) (ev_ixT (ev_var 1 rfl rfl (.inl rfl)) ev_int rfl) (small_mul hx.1 hy.dn))
    (ev_mul (ev_ixT (ev_var 1 rfl rfl (.inl rfl)) ev_int rfl) (ev_ixT (ev_var 0 rfl rfl (.inl rfl)) ev_int rfl) (small_mul hy.1 hx.dn)))
    (ea_cons (ev_mul (ev_ixT (ev_var 0 rfl rfl (.inl rfl)) ev_int rfl) (ev_ixT (ev_var 1 rfl rfl (.inl rfl)) ev_int rfl) (small_mul hx.dn hy.dn)) ea_nil)) (phP.mk (_, _) (mden2_ok hx hy))) ⟨mu_end _, ?_⟩
  show DE.d (rD (mkRat _ _)) = _
  rw [mk_sub]
abbrev s_ltimes : Stmt := topS 38
theorem sc_ltimes : FnScope ["part", "by"] ["part", "by"] (defScope s_ltimes) := ⟨rfl, rfl, rfl, by decide +kernel, rfl, by decide +kernel, by decide +kernel⟩
def ph_ltimes : Phi := phP (fun t : Rat × Int => Sz 4000 t.1 ∧ t.2.natAbs < 2 ^ 4000) (fun t => [.d (rD t.1), .d (.int t.2)]) (fun t => rD (t.1 * (t.2 : Rat)))
theorem ok_ltimes {f : Addr} {fd : FuncData} (F : Fun K "_law_times" "_law_times" s_ltimes f fd) (d1 : Df P w K mg base 1 "_law_lowest" ph_llowest) : FnOk P w K mg base CX0 2 f fd ["part", "by"] (SpD K ph_ltimes) := by
  refine fn_p F sc_ltimes (fun _ => rfl) fun cdv A outer s H E hr t hp μ => ?_
  obtain ⟨x, n⟩ := t
  obtain ⟨hx, hn⟩ : Sz 4000 x ∧ n.natAbs < 2 ^ 4000 := hp
  refine bs_ret (ev_call d1 hr (by decide) rfl (ea_cons (ev_mul (ev_ixT (ev_var 0 rfl rfl (.inl rfl)) ev_int rfl) (ev_var 1 rfl rfl (.inl rfl)) (small_mul hx.1 hn)) (ea_cons (ev_ixT (ev_var 0 rfl rfl (.inl rfl)) ev_int rfl) ea_nil)) (phP.mk (_, _) ⟨dn_pos x, pw_up hx.dn (by omega)⟩)) ⟨mu_end _, ?_⟩
  show DE.d (rD (mkRat _ _)) = _
  rw [mk_times]
abbrev s_lless : Stmt := topS 39
theorem sc_lless : FnScope ["one", "other"] ["one", "other"] (defScope s_lless) := ⟨rfl, rfl, rfl, by decide +kernel, rfl, by decide +kernel, by decide +kernel⟩
def ph_lless : Phi := phP (fun t : Rat × Rat => Sz 4000 t.1 ∧ Sz 4000 t.2) (fun t => [.d (rD t.1), .d (rD t.2)]) (fun t => .bool (decide (t.1 < t.2)))
theorem ok_lless {f : Addr} {fd : FuncData} (F : Fun K "_law_less" "_law_less" s_lless f fd) : FnOk P w K mg base CX0 1 f fd ["one", "other"] (SpD K ph_lless) := by
  refine fn_p F sc_lless (fun _ => rfl) fun cdv A outer s H E hr t hp μ => ?_
  obtain ⟨x, y⟩ := t
  obtain ⟨hx, hy⟩ : Sz 4000 x ∧ Sz 4000 y := hp
  refine bs_ret (ev_cmp (ev_mul (ev_ixT (ev_var 0 rfl rfl (.inl rfl)) ev_int rfl) (ev_ixT (ev_var 1 rfl rfl (.inl rfl)) ev_int rfl) (small_mul hx.1 hy.dn))
    (ev_mul (ev_ixT (ev_var 1 rfl rfl (.inl rfl)) ev_int rfl) (ev_ixT (ev_var 0 rfl rfl (.inl rfl)) ev_int rfl) (small_mul hy.1 hx.dn)) c_lt rfl) ⟨mu_end _, ?_⟩
  rw [lt_so]
abbrev s_raft : Stmt := topS 40
theorem sc_raft : FnScope ["bag", "wide"] ["bag"] (defScope s_raft) := ⟨rfl, rfl, rfl, by decide +kernel, rfl, by decide +kernel, by decide +kernel⟩
def ph_raft : Phi := phB (fun _ : Unit => True) (fun _ => []) (fun _ s => raftB s) (fun _ s => raftD (raftV s))
theorem ok_raft {f : Addr} {fd : FuncData} (F : Fun K "_law_raft" "_law_raft" s_raft f fd) (d1 : Df P w K mg base 1 "_law_take" ph_take) : FnOk P w K mg base CX0 2 f fd ["bag"] (SpD K ph_raft) := by
  refine fn_b F sc_raft (fun _ => rfl) fun cdv A outer s H E hr _ _ μ k s hs hk => ?_
  have w1 := raftW_bd s
  have w2 := raftU_bd s
  have k1 : (μ.set k (some (takeB s 3).d))[k]? = some (some (takeB s 3).d) := bag_at hk
  have hs1 := take_ok (n := 3) (by omega) hs
  have hs2 := take_ok (n := raftW s) (by omega) hs1
  have hs3 := take_ok (n := 3) (by omega) hs2
  refine bs_set 1 (ev_ixL (ev_lst (ds := [.int 12, .int 100, .int 1000]) (ea_cons ev_int (ea_cons ev_int (ea_cons ev_int ea_nil))) (ln (by simp))) (ev_call d1 hr (by decide) rfl (ea_cons (ev_var 0 rfl rfl (.inl rfl)) (ea_cons ev_int ea_nil)) (phB.mk 3 ⟨by omega, by omega⟩ hs hk)) rfl (at_pick3 (take_lo s (by omega)) (take_hi s (by omega)))) ?_ sc_raft.nd rfl (.inl rfl)
  have k2 := bag_at (l := (takeB (takeB s 3) (raftW s)).d) k1
  have k3 := bag_at (l := (takeB (takeB (takeB s 3) (raftW s)) 3).d) k2
  refine bs_ret (ev_tup (ds := [.int (1 + takeV (takeB s 3) (raftW s)), .int (1 + takeV (takeB (takeB (takeB s 3) (raftW s)) 3) (raftU s))]) (ea_cons (ev_add ev_int (ev_call d1 hr (by decide) rfl (ea_cons (ev_var 0 rfl rfl (.inl rfl)) (ea_cons (ev_var 1 rfl rfl (.inl rfl)) ea_nil)) (phB.mk (raftW s) ⟨by omega, by omega⟩ hs1 k1)))
    (ea_cons (ev_add ev_int (ev_call d1 hr (by decide) rfl (ea_cons (ev_var 0 rfl rfl (.inl rfl)) (ea_cons (ev_ixL (ev_lst (ds := [.int 30, .int 300, .int 1000]) (ea_cons ev_int (ea_cons ev_int (ea_cons ev_int ea_nil))) (ln (by simp))) (ev_call d1 hr (by decide) rfl (ea_cons (ev_var 0 rfl rfl (.inl rfl)) (ea_cons ev_int ea_nil)) (phB.mk 3 ⟨by omega, by omega⟩ hs2 k2)) rfl (at_pick3 (take_lo _ (by omega)) (take_hi _ (by omega)))) ea_nil)) (phB.mk (raftU s) ⟨by omega, by omega⟩ hs3 k3))) ea_nil)) (ln (by simp))) ⟨⟨[], ?_⟩, rfl⟩
  show _ = μ.set k (some (raftB s).d) ++ []
  rw [List.append_nil, set2, set2, set2]
  rfl
/-! ### folk, places, a standing -/
abbrev s_folk : Stmt := topS 41
theorem sc_folk : FnScope ["bag", "most", "found", "reach", "alike", "name", "heavy"] ["bag", "most"] (defScope s_folk) := ⟨rfl, rfl, rfl, by decide +kernel, rfl, by decide +kernel, by decide +kernel⟩
def ph_folk : Phi := phB (fun n : Int => 0 < n ∧ n ≤ 7) (fun n => [.d (.int n)]) (fun n s => folkB n s) (fun n s => folkD (folkV n s))
theorem ok_folk {f : Addr} {fd : FuncData} (F : Fun K "_law_folk" "_law_folk" s_folk f fd) (mtup : mg "tuple" = none) (d1 : Df P w K mg base 1 "_law_take" ph_take) : FnOk P w K mg base CX0 2 f fd ["bag", "most"] (SpD K ph_folk) := by
  refine fn_b F sc_folk (fun _ => rfl) fun cdv A outer s H E hr n hp μ c g hg hc => ?_
  obtain ⟨n0, n7⟩ : 0 < n ∧ n ≤ 7 := hp
  have hcl := lt_get hc
  have w1 := folkW_bd g
  have v1 := take_lo (folkS3 g) n0
  have v2 := take_hi (folkS3 g) n0
  refine bs_set 2 (ev_lstC (ds := []) ea_nil (ln (by simp))) ?_ sc_folk.nd rfl (.inl rfl)
  have c0 := get_app (y := some (Cl.lst [])) hc
  have c1 := bag_at (l := (folkS1 g).d) c0
  have c2 := bag_at (l := (folkS2 g).d) c1
  have c3 := bag_at (l := (folkS3 g).d) c2
  refine bs_set 3 (ev_call d1 hr (by decide) rfl (ea_cons (ev_var 0 rfl rfl (.inl rfl)) (ea_cons (ev_ixL (ev_lst (ds := [.int 4, .int 101]) (ea_cons ev_int (ea_cons ev_int ea_nil)) (ln (by simp))) (ev_call d1 hr (by decide) rfl (ea_cons (ev_var 0 rfl rfl (.inl rfl)) (ea_cons ev_int ea_nil)) (phB.mk 2 ⟨by omega, by omega⟩ hg c0)) rfl (at_pick2 (take_lo g (by omega)) (take_hi g (by omega)))) ea_nil)) (phB.mk (folkW g) ⟨by omega, by omega⟩ (folkS1_ok hg) c1)) ?_ sc_folk.nd rfl (.inl rfl)
  refine bs_set 4 (x := .d (.bool (folkA g))) (ev_cmp (ev_call d1 hr (by decide) rfl (ea_cons (ev_var 0 rfl rfl (.inl rfl)) (ea_cons ev_int ea_nil)) (phB.mk 2 ⟨by omega, by omega⟩ (folkS2_ok hg) c2)) ev_int (by
    show CmpD _ _ _ _ _ (decide (takeV (folkS2 g) 2 = 0))
    rw [← eqv_int]
    exact c_eq hr.units rfl rfl (shaped_int _) (shaped_int _)) rfl) ?_ sc_folk.nd rfl (.inl rfl)
  have hst : (((((μ ++ [some (Cl.lst [])]).set c (some (folkS1 g).d)).set c (some (folkS2 g).d)).set c (some (folkS3 g).d)).set c (some (folkS4 g n).d)) = μ.set c (some (folkS4 g n).d) ++ [some (Cl.lst [])] := by
    rw [set2, set2, set2, set_app hcl]
  refine bs_cons (M := fun env m => ∃ e5 e6, env = [some (.c c), some (.d (.int n)), some (.c μ.length), some (.d (.int (folkR g))), some (.d (.bool (folkA g))), e5, e6] ∧ m = μ.set c (some (folkB n g).d) ++ [some (Cl.lst ((folkV n g).map manD))]) ?_ fun env m h => ?_
  · refine b1_for (ds := (folkN g n).map .str) (fun i env m => ∃ e5 e6, env = [some (.c c), some (.d (.int n)), some (.c μ.length), some (.d (.int (folkR g))), some (.d (.bool (folkA g))), e5, e6] ∧ m = μ.set c (some (menR (folkR g) (folkA g) ((folkN g n).take i) (folkS4 g n)).2.d) ++ [some (Cl.lst ((menR (folkR g) (folkA g) ((folkN g n).take i) (folkS4 g n)).1.map manD))]) (μ1 := μ.set c (some (folkS4 g n).d) ++ [some (Cl.lst [])]) ?_ ⟨_, _, rfl, rfl⟩ PassesOwn.never rfl ?_ ?_
    · rw [← hst]
      have hcut : (folkN g n).map PyData.str = cutD (allNames.map .str) none (some (1 + takeV (folkS3 g) n)) := by
        rw [cut_to _ (by omega), ← List.map_take]; rfl
      rw [hcut]
      exact it_list (ev_slL (ev_lst (ds := allNames.map .str) (ea_cons ev_str (ea_cons ev_str (ea_cons ev_str (ea_cons ev_str (ea_cons ev_str (ea_cons ev_str (ea_cons ev_str ea_nil))))))) (ln (by simp [allNames]))) rfl eo_none (eo_some (ev_add ev_int (ev_call d1 hr (by decide) rfl (ea_cons (ev_var 0 rfl rfl (.inl rfl)) (ea_cons (ev_var 1 rfl rfl (.inl rfl)) ea_nil)) (phB.mk n ⟨n0, by omega⟩ (folkS3_ok hg) c3)))))
    · rintro i d env m hd ⟨e5, e6, rfl, rfl⟩
      obtain ⟨nm, hn, rfl⟩ := map_get hd
      have et := menR_take (rch := folkR g) (al := folkA g) (s := folkS4 g n) hn
      have hl1 : (menR (folkR g) (folkA g) ((folkN g n).take i) (folkS4 g n)).1.length ≤ 7 := by
        rw [menR_len, List.length_take]
        have : (folkN g n).length ≤ 7 := by unfold folkN; rw [List.length_take, show allNames.length = 7 from rfl]; omega
        omega
      have hgi : (menR (folkR g) (folkA g) ((folkN g n).take i) (folkS4 g n)).2.ok := menR_ok (folkS4_ok n0 hg)
      generalize hmr : menR (folkR g) (folkA g) ((folkN g n).take i) (folkS4 g n) = mr at *
      obtain ⟨ms, gi⟩ := mr
      have hgi : gi.ok := hgi
      have hl1 : ms.length ≤ 7 := hl1
      have w2 := manW_bd gi
      have w3 := manU_bd gi
      have k0 : (μ.set c (some gi.d) ++ [some (Cl.lst (ms.map manD))])[c]? = some (some gi.d) := get_app (bag_at hc)
      have k1 := bag_at (l := (takeB gi 3).d) k0
      refine ⟨_, _, tg_name 5 sc_folk.nd rfl (.inl rfl), ?_⟩
      refine bs_set 6 (ev_add ev_int (ev_call d1 hr (by decide) rfl (ea_cons (ev_var 0 rfl rfl (.inl rfl)) (ea_cons (ev_ixL (ev_lst (ds := [.int 5, .int 60, .int 200]) (ea_cons ev_int (ea_cons ev_int (ea_cons ev_int ea_nil))) (ln (by simp))) (ev_call d1 hr (by decide) rfl (ea_cons (ev_var 0 rfl rfl (.inl rfl)) (ea_cons ev_int ea_nil)) (phB.mk 3 ⟨by omega, by omega⟩ hgi k0)) rfl (at_pick3 (take_lo gi (by omega)) (take_hi gi (by omega)))) ea_nil)) (phB.mk (manW gi) ⟨by omega, by omega⟩ (take_ok (by omega) hgi) k1))) ?_ sc_folk.nd rfl (.inl rfl)
      have hs2 : ((μ.set c (some gi.d) ++ [some (Cl.lst (ms.map manD))]).set c (some (takeB gi 3).d)).set c (some (manS gi).d) = μ.set c (some (manS gi).d) ++ [some (Cl.lst (ms.map manD))] := by
        rw [set2, set_app (by rw [List.length_set]; exact hcl), set2]
      show Bs _ _ _ (((μ.set c (some gi.d) ++ [some (Cl.lst (ms.map manD))]).set c (some (takeB gi 3).d)).set c (some (manS gi).d)) _
      rw [hs2]
      have k2 : (μ.set c (some (manS gi).d) ++ [some (Cl.lst (ms.map manD))])[c]? = some (some (manS gi).d) := get_app (bag_at hc)
      have k3 := bag_at (l := (takeB (manS gi) 2).d) k2
      have hf : ∀ x : Bag, (μ.set c (some x.d) ++ [some (Cl.lst (ms.map manD))])[μ.length]? = some (some (Cl.lst (ms.map manD))) := fun x => by
        have := get_last (μ.set c (some x.d)) (some (Cl.lst (ms.map manD)))
        rw [List.length_set] at this; exact this
      have hfs : ∀ x : Bag, ∀ l : Cl, (μ.set c (some x.d) ++ [some (Cl.lst (ms.map manD))]).set μ.length (some l) = μ.set c (some x.d) ++ [some l] := fun x l => by
        have := set_last (μ.set c (some x.d)) (some l) (some (Cl.lst (ms.map manD)))
        rw [List.length_set] at this; exact this
      have fin : ∀ (x : Bag) (rr : Int), manB (folkA g) gi = x → manV (folkR g) (folkA g) nm gi = ⟨nm, 1 + takeV (takeB gi 3) (manW gi), rr⟩ → (∃ e5 e6, ([some (.c c), some (.d (.int n)), some (.c μ.length), some (.d (.int (folkR g))), some (.d (.bool (folkA g))), some (.d (.str nm)), some (.d (.int (1 + takeV (takeB gi 3) (manW gi))))] : LE) = [some (.c c), some (.d (.int n)), some (.c μ.length), some (.d (.int (folkR g))), some (.d (.bool (folkA g))), e5, e6] ∧ (μ.set c (some x.d) ++ [some (Cl.lst (ms.map manD))]).set μ.length (some (Cl.lst (ms.map manD ++ [.tuple [.str nm, .int (1 + takeV (takeB gi 3) (manW gi)), .int rr]]))) = μ.set c (some (menR (folkR g) (folkA g) ((folkN g n).take (i + 1)) (folkS4 g n)).2.d) ++ [some (Cl.lst ((menR (folkR g) (folkA g) ((folkN g n).take (i + 1)) (folkS4 g n)).1.map manD))]) := by
        intro x rr h1 h2
        refine ⟨_, _, rfl, ?_⟩
        rw [hfs, et]
        show _ = μ.set c (some (manB (folkA g) gi).d) ++ [some (Cl.lst ((ms ++ [manV (folkR g) (folkA g) nm gi]).map manD))]
        rw [h1, h2, List.map_append]
        rfl
      cases hal : folkA g with
      | true =>
        rw [hal] at fin
        have := fin (manS gi) (folkR g) rfl rfl
        refine bs_one (b1_expr (ev_append (ds := ms.map manD) (ev_var 2 rfl rfl (.inl rfl)) (ev_tup (ds := [.str nm, .int (1 + takeV (takeB gi 3) (manW gi)), .int (folkR g)]) (ea_cons (ev_var 5 rfl rfl (.inl rfl)) (ea_cons (ev_var 6 rfl rfl (.inl rfl)) (ea_cons (ev_if (k := true) (et_val (ev_var 4 rfl rfl (.inl rfl)) (by intro _; rfl)) (fun _ => ev_var 3 rfl rfl (.inl rfl)) (fun z => by cases z)) ea_nil))) (ln (by simp))) ⟨_, hf _⟩ (hf _) (lnl (by rw [List.length_map]; omega))) this)
      | false =>
        rw [hal] at fin
        have := fin (takeB (takeB (manS gi) 2) (manU gi)) (takeV (takeB (manS gi) 2) (manU gi)) rfl rfl
        have hs3 : ((μ.set c (some (manS gi).d) ++ [some (Cl.lst (ms.map manD))]).set c (some (takeB (manS gi) 2).d)).set c (some (takeB (takeB (manS gi) 2) (manU gi)).d) = μ.set c (some (takeB (takeB (manS gi) 2) (manU gi)).d) ++ [some (Cl.lst (ms.map manD))] := by
          rw [set2, set_app (by rw [List.length_set]; exact hcl), set2]
        refine bs_one (b1_expr (ev_append (ds := ms.map manD) (μ2 := μ.set c (some (takeB (takeB (manS gi) 2) (manU gi)).d) ++ [some (Cl.lst (ms.map manD))]) (ev_var 2 rfl rfl (.inl rfl)) (ev_tup (ds := [.str nm, .int (1 + takeV (takeB gi 3) (manW gi)), .int (takeV (takeB (manS gi) 2) (manU gi))]) (ea_cons (ev_var 5 rfl rfl (.inl rfl)) (ea_cons (ev_var 6 rfl rfl (.inl rfl)) (ea_cons (ev_if (k := false) (et_val (ev_var 4 rfl rfl (.inl rfl)) (by intro _; rfl)) (fun z => by cases z) (fun _ => ?_)) ea_nil))) (ln (by simp))) ⟨_, hf _⟩ (hf _) (lnl (by rw [List.length_map]; omega))) this)
        rw [← hs3]
        exact ev_call d1 hr (by decide) rfl (ea_cons (ev_var 0 rfl rfl (.inl rfl)) (ea_cons (ev_ixL (ev_lst (ds := [.int 6, .int 101]) (ea_cons ev_int (ea_cons ev_int ea_nil)) (ln (by simp))) (ev_call d1 hr (by decide) rfl (ea_cons (ev_var 0 rfl rfl (.inl rfl)) (ea_cons ev_int ea_nil)) (phB.mk 2 ⟨by omega, by omega⟩ (manS_ok hgi) k2)) rfl (at_pick2 (take_lo _ (by omega)) (take_hi _ (by omega)))) ea_nil)) (phB.mk (manU gi) ⟨by omega, by omega⟩ (take_ok (by omega) (manS_ok hgi)) k3)
    · rintro env m ⟨e5, e6, rfl, rfl⟩
      refine ⟨e5, e6, rfl, ?_⟩
      rw [List.length_map, List.take_of_length_le (Nat.le_refl _)]
      rfl
  · obtain ⟨e5, e6, rfl, rfl⟩ := h
    have hf : (μ.set c (some (folkB n g).d) ++ [some (Cl.lst ((folkV n g).map manD))])[μ.length]? = some (some (Cl.lst ((folkV n g).map manD))) := by
      have := get_last (μ.set c (some (folkB n g).d)) (some (Cl.lst ((folkV n g).map manD)))
      rw [List.length_set] at this; exact this
    exact bs_ret (ev_callT call_tuple_of rfl mtup (by decide +kernel) (ea_cons (ev_var 2 rfl rfl (.inl rfl)) ea_nil) (rc_tupleL ⟨_, hf, rfl⟩)) ⟨⟨_, rfl⟩, rfl⟩
abbrev s_place : Stmt := topS 42
theorem sc_place : FnScope ["bag", "raft", "part"] ["bag", "raft"] (defScope s_place) := ⟨rfl, rfl, rfl, by decide +kernel, rfl, by decide +kernel, by decide +kernel⟩
def ph_place : Phi := phB (fun r : Raft => r.ok) (fun r => [.d (raftD r)]) (fun _ s => takeB s 5) (fun r s => rD (placeV r s))
theorem ok_place {f : Addr} {fd : FuncData} (F : Fun K "_law_place" "_law_place" s_place f fd) (d1 : Df P w K mg base 1 "_law_take" ph_take) (d2 : Df P w K mg base 1 "_law_lowest" ph_llowest) : FnOk P w K mg base CX0 2 f fd ["bag", "raft"] (SpD K ph_place) := by
  refine fn_b F sc_place (fun _ => rfl) fun cdv A outer s H E hr r hp μ c g hg hc => ?_
  obtain ⟨a, b, _⟩ : r.ok := hp
  have h1 := take_lo g (n := 5) (by omega)
  have h2 := take_hi g (n := 5) (by omega)
  refine bs_set 2 (ev_call d1 hr (by decide) rfl (ea_cons (ev_var 0 rfl rfl (.inl rfl)) (ea_cons ev_int ea_nil)) (phB.mk 5 ⟨by omega, by omega⟩ hg hc)) ?_ sc_place.nd rfl (.inl rfl)
  exact bs_ret (ev_call d2 hr (by decide) rfl (ea_cons (ev_mul (ev_ixT (ev_var 1 rfl rfl (.inl rfl)) ev_int rfl) (ev_var 2 rfl rfl (.inl rfl)) (small_mul (sm (by omega) (by omega)) (sm (by omega) (by omega)))) (ea_cons ev_int ea_nil)) (phP.mk (r.lg * takeV g 5, 4) ⟨show (0 : Int) < 4 by decide, pw_up (show (4 : Int).natAbs < 2 ^ 3 by decide) (by omega)⟩)) ⟨mu_end _, rfl⟩
abbrev s_places : Stmt := topS 43
theorem sc_places : FnScope ["bag", "raft", "folk", "one"] ["bag", "raft", "folk"] (defScope s_places) := ⟨rfl, rfl, rfl, by decide +kernel, rfl, by decide +kernel, by decide +kernel⟩
def ph_places : Phi := phB (fun t : Raft × List Man => t.1.ok ∧ t.2.length ≤ 7) (fun t => [.d (raftD t.1), .d (folkD t.2)]) (fun t s => plB t.1 t.2.length s) (fun t s => plD (plV t.1 t.2.length s))
theorem ok_places {f : Addr} {fd : FuncData} (F : Fun K "_law_places" "_law_places" s_places f fd) (mtup : mg "tuple" = none) (d1 : Df P w K mg base 2 "_law_place" ph_place) : FnOk P w K mg base CX0 3 f fd ["bag", "raft", "folk"] (SpD K ph_places) := by
  refine fn_b F sc_places (fun _ => rfl) fun cdv A outer s H E hr t hp μ c g hg hc => ?_
  obtain ⟨r, fs⟩ := t
  obtain ⟨hrf, hl⟩ : r.ok ∧ fs.length ≤ 7 := hp
  have st : ∀ i, (μ.set c (some (plB r i g).d))[c]? = some (some (plB r i g).d) := fun i => bag_at hc
  have h0 : μ.set c (some (plB r 0 g).d) = μ := by
    have hcl := lt_get hc
    refine List.ext_getElem? fun j => ?_
    by_cases e : c = j
    · subst e; rw [bag_at hc, hc]; rfl
    · rw [List.getElem?_set_ne e]
  refine bs_ret (ev_callT call_tuple_of rfl mtup (by decide +kernel) (ea_cons (ev_lc (own := [("one", 3)]) (ds := fs.map manD) (out := (plV r fs.length g).map rD) (fun i m acc => m = μ.set c (some (plB r i g).d) ∧ acc = (plV r i g).map rD) rfl sc_places.nd (blkOk_by (N := ["bag", "raft", "folk", "one"]) (sc := defScope s_places) (by decide +kernel)) (it_tup (ev_var 2 rfl rfl (.inl rfl))) ⟨h0.symm, rfl⟩ ?_ ?_) ea_nil) (rc_tupleL (ds := (plV r fs.length g).map rD) rfl)) ⟨mu_end _, rfl⟩
  · rintro i d m acc hd ⟨rfl, rfl⟩
    obtain ⟨mn, hm, rfl⟩ := map_get hd
    have hil := lt_get hm
    refine ⟨_, _, true, _, ?_, fun s H C cl fp => tg_name 3 sc_places.nd rfl (.inl rfl), fun s H C cl fp => ets_nil, fun _ => ⟨rD (placeV r (plB r i g)), _, fun s H C cl fp => ev_call d1 hr (by decide) rfl (ea_cons (ev_var 0 rfl rfl (.inr (.inl rfl))) (ea_cons (ev_var 1 rfl rfl (.inr (.inl rfl))) ea_nil)) (phB.mk r hrf (plB_ok hg i) (st i)), ?_, ?_, ?_⟩, fun z => by cases z⟩
    · decide
    · rw [List.length_map, plV_len]; exact lnl (by omega)
    · rw [set2]; rfl
    · show (plV r i g).map rD ++ [rD (placeV r (plB r i g))] = ((plR r i g).1 ++ [placeV r (plR r i g).2]).map rD
      rw [List.map_append]; rfl
  · rintro m acc ⟨rfl, rfl⟩
    rw [List.length_map]
    exact ⟨rfl, rfl⟩
abbrev s_standing : Stmt := topS 44
theorem sc_standing : FnScope ["bag", "raft", "folk", "wide"] ["bag", "raft", "folk"] (defScope s_standing) := ⟨rfl, rfl, rfl, by decide +kernel, rfl, by decide +kernel, by decide +kernel⟩
def ph_standing : Phi := phB (fun t : Raft × List Man => t.1.ok ∧ t.2.length ≤ 7) (fun t => [.d (raftD t.1), .d (folkD t.2)]) (fun t s => plB t.1 t.2.length (stS t.1 s)) (fun t s => stD (gpV t.1 s) (plV t.1 t.2.length (stS t.1 s)))
theorem ok_standing {f : Addr} {fd : FuncData} (F : Fun K "_law_standing" "_law_standing" s_standing f fd) (d1 : Df P w K mg base 1 "_law_take" ph_take) (d2 : Df P w K mg base 1 "_law_lowest" ph_llowest) (d3 : Df P w K mg base 3 "_law_places" ph_places) : FnOk P w K mg base CX0 4 f fd ["bag", "raft", "folk"] (SpD K ph_standing) := by
  refine fn_b F sc_standing (fun _ => rfl) fun cdv A outer s H E hr t hp μ c g hg hc => ?_
  obtain ⟨r, fs⟩ := t
  obtain ⟨hrf, hl⟩ : r.ok ∧ fs.length ≤ 7 := hp
  have hw := stW_bd hrf g
  have c1 := bag_at (l := (takeB g 3).d) hc
  have c2 := bag_at (l := (stS r g).d) c1
  have h1 := take_lo (takeB g 3) (n := 2 * stW r g + 1) (by omega)
  have h2 := take_hi (takeB g 3) (n := 2 * stW r g + 1) (by omega)
  refine bs_set 3 (ev_ixL (ev_lst (ds := [.int 4, .int r.lg, .int 120]) (ea_cons ev_int (ea_cons (ev_ixT (ds := [.int r.lg, .int r.hv]) (ev_var 1 rfl rfl (.inl rfl)) ev_int rfl) (ea_cons ev_int ea_nil))) (ln (by simp))) (ev_call d1 hr (by decide) rfl (ea_cons (ev_var 0 rfl rfl (.inl rfl)) (ea_cons ev_int ea_nil)) (phB.mk 3 ⟨by omega, by omega⟩ hg hc)) rfl (at_pick3 (take_lo g (by omega)) (take_hi g (by omega)))) ?_ sc_standing.nd rfl (.inl rfl)
  refine bs_ret (ev_tup (ds := [rD (gpV r g), plD (plV r fs.length (stS r g))]) (ea_cons (ev_call d2 hr (by decide) rfl (ea_cons (ev_call d1 hr (by decide) rfl (ea_cons (ev_var 0 rfl rfl (.inl rfl)) (ea_cons (ev_add (ev_mul ev_int (ev_var 3 rfl rfl (.inl rfl)) (small_mul (sm (by omega) (by omega)) (sm (show -(2 ^ 62) < stW r g by omega) (show stW r g < 2 ^ 62 by omega)))) ev_int) ea_nil)) (phB.mk (2 * stW r g + 1) ⟨by omega, by omega⟩ (take_ok (by omega) hg) c1)) (ea_cons ev_int ea_nil)) (phP.mk (takeV (takeB g 3) (2 * stW r g + 1), 2) ⟨show (0 : Int) < 2 by decide, pw_up (show (2 : Int).natAbs < 2 ^ 2 by decide) (by omega)⟩))
    (ea_cons (ev_call d3 hr (by decide) rfl (ea_cons (ev_var 0 rfl rfl (.inl rfl)) (ea_cons (ev_var 1 rfl rfl (.inl rfl)) (ea_cons (ev_var 2 rfl rfl (.inl rfl)) ea_nil))) (phB.mk (r, fs) ⟨hrf, hl⟩ (stS_ok hrf hg) c2)) ea_nil)) (ln (by simp))) ⟨⟨[], ?_⟩, rfl⟩
  show _ = μ.set c (some (plB r fs.length (stS r g)).d) ++ []
  rw [List.append_nil, set2, set2]
abbrev s_lheavy : Stmt := topS 45
theorem sc_lheavy : FnScope ["raft", "folk", "one"] ["raft", "folk"] (defScope s_lheavy) := ⟨rfl, rfl, rfl, by decide +kernel, rfl, by decide +kernel, by decide +kernel⟩
def ph_lheavy : Phi := phP (fun t : Raft × List Man => t.2.length ≤ 1000) (fun t => [.d (raftD t.1), .d (folkD t.2)]) (fun t => .int (tot t.1 t.2))
theorem ok_lheavy {f : Addr} {fd : FuncData} (F : Fun K "_law_heavy" "_law_heavy" s_lheavy f fd) (msum : mg "sum" = none) : FnOk P w K mg base CX0 1 f fd ["raft", "folk"] (SpD K ph_lheavy) := by
  refine fn_p F sc_lheavy (fun _ => rfl) fun cdv A outer s H E hr t hp μ => ?_
  obtain ⟨r, fs⟩ := t
  refine bs_ret (ev_add (ev_ixT (ev_var 0 rfl rfl (.inl rfl)) ev_int rfl) (ev_callB (cr_sum rfl) rfl msum (by decide +kernel) (ea_cons (ev_lcm (own := [("one", 2)]) fs manD (fun m => .int m.hv) rfl sc_lheavy.nd (blkOk_by (N := ["raft", "folk", "one"]) (sc := defScope s_lheavy) (by decide +kernel)) (it_tup (ev_var 1 rfl rfl (.inl rfl))) hp fun m hm => ?_) ea_nil) (rc_sum (ns := fs.map (·.hv)) ?_))) ⟨mu_end _, rfl⟩
  · refine ⟨_, _, ?_, fun s H C cl fp => tg_name 2 sc_lheavy.nd rfl (.inl rfl), fun s H C cl fp => ev_ixT (ds := [.str m.nm, .int m.hv, .int m.rc]) (ev_var 2 rfl rfl (.inl rfl)) ev_int rfl⟩
    decide
  · show PyData.list _ = _
    rw [List.map_map]; rfl
abbrev s_lshift : Stmt := topS 46
theorem sc_lshift : FnScope ["folk", "before", "after", "total", "one", "old", "new"] ["folk", "before", "after"] (defScope s_lshift) := ⟨rfl, rfl, rfl, by decide +kernel, rfl, by decide +kernel, by decide +kernel⟩
def ph_lshift : Phi := phP (fun t : List Man × List Rat × Bool × List Rat => Good3 t.1 t.2.1 t.2.2.2) (fun t => [.d (folkD t.1), .d (plD t.2.1), .d (plK t.2.2.1 t.2.2.2)]) (fun t => rD (shf t.1 t.2.1 t.2.2.2))
theorem ok_lshift {f : Addr} {fd : FuncData} (F : Fun K "_law_shift" "_law_shift" s_lshift f fd) (mzip : mg "zip" = none) (d1 : Df P w K mg base 2 "_law_plus" ph_lplus) (d2 : Df P w K mg base 2 "_law_times" ph_ltimes) (d3 : Df P w K mg base 2 "_law_minus" ph_lminus) :
    FnOk P w K mg base CX0 3 f fd ["folk", "before", "after"] (SpD K ph_lshift) := by
  refine fn_p F sc_lshift (fun _ => rfl) fun cdv A outer s H E hr t hp μ => ?_
  obtain ⟨fs, ps, kd, qs⟩ := t
  have hp : Good3 fs ps qs := hp
  have hl1 := hp.l1
  have hl2 := hp.l2
  have hlm := hp.mn.1
  refine bs_set 3 (ev_tup (ds := [.int 0, .int 1]) (ea_cons ev_int (ea_cons ev_int ea_nil)) (ln (by simp))) ?_ sc_lshift.nd rfl (.inl rfl)
  refine bs_cons (M := fun env m => ∃ e4 e5 e6, env = [some (.d (folkD fs)), some (.d (plD ps)), some (.d (plK kd qs)), some (.d (rD (shf fs ps qs))), e4, e5, e6] ∧ m = μ) ?_ fun env m h => ?_
  · refine b1_for (fun i env m => ∃ e4 e5 e6, env = [some (.d (folkD fs)), some (.d (plD ps)), some (.d (plK kd qs)), some (.d (rD (shf (fs.take i) (ps.take i) (qs.take i)))), e4, e5, e6] ∧ m = μ) (it_zip3 (k1 := false) (k2 := false) (k3 := kd) (ds := fs.map manD) (es := ps.map rD) (fs := qs.map rD) (by rw [List.length_map, List.length_map]; exact hl1) (by rw [List.length_map, List.length_map]; exact hl2) (ea_cons (ev_var 0 rfl rfl (.inl rfl)) (ea_cons (ev_var 1 rfl rfl (.inl rfl)) (ea_cons (ev_var 2 rfl rfl (.inl rfl)) ea_nil))) rfl mzip) ⟨_, _, _, rfl, rfl⟩ PassesOwn.never rfl ?_ ?_
    · rintro i d env m hd ⟨e4, e5, e6, rfl, rfl⟩
      obtain ⟨mn, p, q, h1, h2, h3, rfl⟩ := zip3_enc fs ps qs hd
      have hm := hp.mn.2 mn (List.mem_of_getElem? h1)
      have hs1 := hp.s1 p (List.mem_of_getElem? h2)
      have hs2 := hp.s2 q (List.mem_of_getElem? h3)
      have hmz : Sz 4000 (shf (fs.take i) (ps.take i) (qs.take i)) := by
        refine (shf_sz (n := 240) (fun x hx => hp.mn.2 x (List.mem_of_mem_take hx)) (fun x hx => hp.s1 x (List.mem_of_mem_take hx)) (fun x hx => hp.s2 x (List.mem_of_mem_take hx))).mono ?_
        rw [List.length_take]; omega
      have h8 : mn.hv.natAbs < 2 ^ 8 := pw8 (by have := hm.1; omega) hm.2.1
      have hqp := hs2.sub hs1
      have hts : Sz 4000 ((q - p) * (mn.hv : Rat)) := (hqp.mul (Sz.int (n := 8) h8 (by omega))).mono (by omega)
      refine ⟨_, _, tg_tup (ds := [manD mn, rD p, rD q]) rfl (tgl_cons (tg_name 4 sc_lshift.nd rfl (.inl rfl)) (tgl_cons (tg_name 5 sc_lshift.nd rfl (.inl rfl)) (tgl_cons (tg_name 6 sc_lshift.nd rfl (.inl rfl)) tgl_nil))), ?_⟩
      exact bs_one (b1_set 3 (ev_call d1 hr (by decide) rfl (ea_cons (ev_var 3 rfl rfl (.inl rfl)) (ea_cons (ev_call d2 hr (by decide) rfl (ea_cons (ev_call d3 hr (by decide) rfl (ea_cons (ev_var 6 rfl rfl (.inl rfl)) (ea_cons (ev_var 5 rfl rfl (.inl rfl)) ea_nil)) (phP.mk (q, p) ⟨hs2.mono (by omega), hs1.mono (by omega)⟩)) (ea_cons (ev_ixT (ds := [.str mn.nm, .int mn.hv, .int mn.rc]) (ev_var 4 rfl rfl (.inl rfl)) ev_int rfl) ea_nil)) (phP.mk (q - p, mn.hv) ⟨hqp.mono (by omega), pw_up h8 (by omega)⟩)) ea_nil)) (phP.mk (shf (fs.take i) (ps.take i) (qs.take i), (q - p) * (mn.hv : Rat)) ⟨hmz, hts⟩)) (by show ∃ _ _ _, _; rw [shf_take h1 h2 h3]; exact ⟨_, _, _, rfl, rfl⟩) sc_lshift.nd rfl (.inl rfl))
    · rintro env m ⟨e4, e5, e6, rfl, rfl⟩
      refine ⟨e4, e5, e6, ?_, rfl⟩
      rw [zip3_len (by rw [List.length_map, List.length_map]; exact hl1) (by rw [List.length_map, List.length_map]; exact hl2), List.length_map, List.take_of_length_le (Nat.le_refl _), List.take_of_length_le (by omega), List.take_of_length_le (by omega)]
  · obtain ⟨e4, e5, e6, rfl, rfl⟩ := h
    exact bs_ret (ev_var 3 rfl rfl (.inl rfl)) ⟨mu_end _, rfl⟩
abbrev s_lgap : Stmt := topS 47
theorem sc_lgap : FnScope ["raft", "folk", "standing", "places", "moved"] ["raft", "folk", "standing", "places"] (defScope s_lgap) := ⟨rfl, rfl, rfl, by decide +kernel, rfl, by decide +kernel, by decide +kernel⟩
def ph_lgap : Phi := phP (fun t : Raft × List Man × Rat × List Rat × Bool × List Rat => t.1.ok ∧ Good3 t.2.1 t.2.2.2.1 t.2.2.2.2.2 ∧ Sz 350 t.2.2.1) (fun t => [.d (raftD t.1), .d (folkD t.2.1), .d (stD t.2.2.1 t.2.2.2.1), .d (plK t.2.2.2.2.1 t.2.2.2.2.2)]) (fun t => rD (gapV t.1 t.2.1 t.2.2.1 t.2.2.2.1 t.2.2.2.2.2))
theorem ok_lgap {f : Addr} {fd : FuncData} (F : Fun K "_law_gap" "_law_gap" s_lgap f fd) (d1 : Df P w K mg base 3 "_law_shift" ph_lshift) (d2 : Df P w K mg base 2 "_law_minus" ph_lminus) (d3 : Df P w K mg base 1 "_law_lowest" ph_llowest) (d4 : Df P w K mg base 1 "_law_heavy" ph_lheavy) :
    FnOk P w K mg base CX0 4 f fd ["raft", "folk", "standing", "places"] (SpD K ph_lgap) := by
  refine fn_p F sc_lgap (fun _ => rfl) fun cdv A outer s H E hr t hp μ => ?_
  obtain ⟨r, fs, g, ps, kd, qs⟩ := t
  obtain ⟨hrf, hp, hg⟩ : r.ok ∧ Good3 fs ps qs ∧ Sz 350 g := hp
  have hlm := hp.mn.1
  have ht := tot_bd hrf hp.mn
  have hz : Sz 3431 (shf fs ps qs) := (shf_sz hp.mn.2 hp.s1 hp.s2).mono (by omega)
  have ht12 : (tot r fs).natAbs < 2 ^ 12 := by omega
  refine bs_set 4 (ev_call d1 hr (by decide) rfl (ea_cons (ev_var 1 rfl rfl (.inl rfl)) (ea_cons (ev_ixT (ds := [rD g, plD ps]) (ev_var 2 rfl rfl (.inl rfl)) ev_int rfl) (ea_cons (ev_var 3 rfl rfl (.inl rfl)) ea_nil))) (phP.mk (fs, ps, kd, qs) hp)) ?_ sc_lgap.nd rfl (.inl rfl)
  refine bs_ret (ev_call d2 hr (by decide) rfl (ea_cons (ev_ixT (ds := [rD g, plD ps]) (ev_var 2 rfl rfl (.inl rfl)) ev_int rfl) (ea_cons (x := .d (rD (shf fs ps qs / (tot r fs : Rat)))) (by
    rw [← mk_shared (shf fs ps qs) (show 0 < tot r fs by omega)]
    exact ev_call d3 hr (by decide) rfl (ea_cons (ev_ixT (ev_var 4 rfl rfl (.inl rfl)) ev_int rfl) (ea_cons (ev_mul (ev_ixT (ev_var 4 rfl rfl (.inl rfl)) ev_int rfl) (ev_call d4 hr (by decide) rfl (ea_cons (ev_var 0 rfl rfl (.inl rfl)) (ea_cons (ev_var 1 rfl rfl (.inl rfl)) ea_nil)) (phP.mk (r, fs) (show fs.length ≤ 1000 by omega))) (small_mul (pw_up hz.dn (by omega)) (pw_up ht12 (by omega)))) ea_nil)) (phP.mk ((shf fs ps qs).num, ((shf fs ps qs).den : Int) * tot r fs) ⟨Int.mul_pos (dn_pos _) (by omega), pw_up (pw_mulI hz.dn ht12) (by omega)⟩)) ea_nil)) (phP.mk (g, shf fs ps qs / (tot r fs : Rat)) ⟨hg.mono (by omega), (hz.div (by omega) ht12 (by omega)).mono (by omega)⟩)) ⟨mu_end _, rfl⟩
abbrev s_lfront : Stmt := topS 48
theorem sc_lfront : FnScope ["raft", "folk", "standing"] ["raft", "folk", "standing"] (defScope s_lfront) := ⟨rfl, rfl, rfl, by decide +kernel, rfl, by decide +kernel, by decide +kernel⟩
def ph_lfront : Phi := phP (fun t : Raft × List Man × Rat × List Rat => t.1.ok ∧ Men t.2.1 ∧ 1 ≤ t.2.1.length ∧ t.2.1.length = t.2.2.2.length ∧ (∀ p ∈ t.2.2.2, Sz 240 p) ∧ Sz 350 t.2.2.1) (fun t => [.d (raftD t.1), .d (folkD t.2.1), .d (stD t.2.2.1 t.2.2.2)]) (fun t => rD (front t.1 t.2.1 t.2.2.1 t.2.2.2))
theorem ok_lfront {f : Addr} {fd : FuncData} (F : Fun K "_law_front" "_law_front" s_lfront f fd) (mlen : mg "len" = none) (d1 : Df P w K mg base 4 "_law_gap" ph_lgap) : FnOk P w K mg base CX0 5 f fd ["raft", "folk", "standing"] (SpD K ph_lfront) := by
  refine fn_p F sc_lfront (fun _ => rfl) fun cdv A outer s H E hr t hp μ => ?_
  obtain ⟨r, fs, g, ps⟩ := t
  obtain ⟨hrf, hm, h1, hl, hz, hg⟩ : r.ok ∧ Men fs ∧ 1 ≤ fs.length ∧ fs.length = ps.length ∧ (∀ p ∈ ps, Sz 240 p) ∧ Sz 350 g := hp
  have h7 := hm.1
  have hd : (fs.map manD).length = fs.length := List.length_map ..
  refine bs_ret (ev_call d1 hr (by decide) rfl (ea_cons (ev_var 0 rfl rfl (.inl rfl)) (ea_cons (ev_var 1 rfl rfl (.inl rfl)) (ea_cons (ev_var 2 rfl rfl (.inl rfl)) (ea_cons (ev_is (y := .d (plD (List.replicate fs.length 0))) (ev_rep1 (d := rD 0) (n := ((fs.map manD).length : Int)) (ev_tup (ds := [rD 0]) (ea_cons (ev_tup (ds := [.int 0, .int 1]) (ea_cons ev_int (ea_cons ev_int ea_nil)) (ln (by simp))) ea_nil) (ln (by simp))) (ev_callB call_len_seq rfl mlen PySem.boot_len (ea_cons (ev_var 1 rfl rfl (.inl rfl)) ea_nil) rc_lenT) (by omega) (by omega)) (by rw [repD, Int.toNat_natCast, hd])) ea_nil)))) (phP.mk (r, fs, g, ps, false, List.replicate fs.length 0) ⟨hrf, Good3.rep hm hl hz (sz_zero (by omega)), hg⟩)) ⟨mu_end _, ?_⟩
  show DE.d (rD (gapV r fs g ps (List.replicate fs.length 0))) = DE.d (rD (front r fs g ps))
  rw [front_so hl]
abbrev s_lwhole : Stmt := topS 32
theorem sc_lwhole : FnScope ["thing"] ["thing"] (defScope s_lwhole) := ⟨rfl, rfl, rfl, by decide +kernel, rfl, by decide +kernel, by decide +kernel⟩
def ph_lwhole : Phi := phP (fun _ : Dt => True) (fun d => [.d d]) (fun d => .bool (wholeB d))
theorem ok_lwhole {f : Addr} {fd : FuncData} (F : Fun K "_law_whole" "_law_whole" s_lwhole f fd) (misi : mg "isinstance" = none) (mint : mg "int" = none) (mbool : mg "bool" = none) : FnOk P w K mg base CX0 1 f fd ["thing"] (SpD K ph_lwhole) := by
  refine fn_p F sc_lwhole (fun _ => rfl) fun cdv A outer s H E hr d _ μ => ?_
  refine bs_ret (x := .d (.bool (isIntD d && !isBoolD d))) (ev_and (ev_isi (ev_var 0 rfl rfl (.inl rfl)) rfl (kit_int d) rfl misi rfl mint (by decide +kernel)) (fun e => ?_) (fun e => ⟨rfl, by rw [e]; rfl⟩)) ⟨mu_end _, by rw [whole_so]⟩
  rw [e]
  exact ev_one (ev_not (ev_isi (ev_var 0 rfl rfl (.inl rfl)) rfl (kit_bool d) rfl misi rfl mbool (by decide +kernel)))
abbrev s_lodd : Stmt := topS 34
theorem sc_lodd : FnScope ["bag", "some"] ["bag"] (defScope s_lodd) := ⟨rfl, rfl, rfl, by decide +kernel, rfl, by decide +kernel, by decide +kernel⟩
def ph_lodd : Phi := phB (fun _ : Unit => True) (fun _ => []) (fun _ s => oddB s) (fun _ s => oddV s)
section
variable {X : Cx} {env : LE} {μ : MU} {a b c : Expr} {es : List Expr} {p pos : Pos} {j kk : Nat}
theorem ev_i2 {m n : Int} (ha : Ev X a env μ μ (.d (.int m))) (hb : Ev X b env μ μ (.d (.int n))) (h1 : starEach [a, b] X.env = (false, eval a X.env) :: starEach [b] X.env := by rfl) (h2 : starEach [b] X.env = (false, eval b X.env) :: starEach [] X.env := by rfl) : Ev X (.Tuple [a, b] kk pos) env μ μ (.d (.tuple [.int m, .int n])) := ev_tup (ds := [.int m, .int n]) (ea_cons ha (ea_cons hb ea_nil h2) h1) (ln (by simp))
theorem ev_t0 : Ev X (.Tuple [] kk pos) env μ μ (.d (.tuple [])) := ev_tup (ds := []) ea_nil (ln (by simp))
end
theorem ok_lodd {f : Addr} {fd : FuncData} (F : Fun K "_law_odd" "_law_odd" s_lodd f fd) (mlen : mg "len" = none) (d1 : Df P w K mg base 1 "_law_take" ph_take) : FnOk P w K mg base CX0 2 f fd ["bag"] (SpD K ph_lodd) := by
  refine fn_b F sc_lodd (fun _ => rfl) fun cdv A outer s H E hr l hp μ c g hg hc => ?_
  have hcl := lt_get hc
  refine bs_set 1 (ev_lstC (ds := oddA) (ea_cons ev_non (ea_cons ev_bl (ea_cons ev_bl (ea_cons ev_int (ea_cons ev_int (ea_cons (ev_neg ev_int) (ea_cons ev_int (ea_cons (ev_pow ev_int ev_int ⟨by decide, by decide, by decide⟩) (ea_cons ev_str (ea_cons ev_str (ea_cons ev_t0 (ea_cons (ev_lst (ds := []) ea_nil (ln (by simp))) (ea_cons (ev_i2 ev_int ev_int) (ea_cons (ev_i2 (ev_neg ev_int) ev_int) (ea_cons (ev_i2 ev_int ev_int) (ea_cons (ev_i2 ev_int ev_int) (ea_cons (ev_i2 ev_int ev_int) ea_nil))))))))))))))))) (ln (by simp [oddA]))) ?_ sc_lodd.nd rfl (.inl rfl)
  have g1 : (μ ++ [some (Cl.lst oddA)] ++ [some (Cl.lst oddZ)])[μ.length]? = some (some (Cl.lst oddA)) := by
    rw [List.append_assoc, List.getElem?_append_right (Nat.le_refl _), Nat.sub_self]; rfl
  have g2 : (μ ++ [some (Cl.lst oddA)] ++ [some (Cl.lst oddZ)])[(μ ++ [some (Cl.lst oddA)]).length]? = some (some (Cl.lst oddZ)) := get_last _ _
  have ann : ∀ {X : Cx} {env : LE} {μ : MU} {p p1 p2 p3 : Pos} {j j1 j2 j3 : Nat}, Ev X (.Tuple [.Constant (.str "ann") j1 p1, .Constant (.int 1) j2 p2, .Constant (.int 0) j3 p3] j p) env μ μ (.d annD) := ev_tup (ds := [.str "ann", .int 1, .int 0]) (ea_cons ev_str (ea_cons ev_int (ea_cons ev_int ea_nil))) (ln (by simp))
  refine bs_set 1 (ev_cat (us := oddA) (ws := oddZ) (ev_var 1 rfl rfl (.inl rfl)) (ev_lstC (ds := oddZ) (ea_cons (ev_tup (ds := [.none]) (ea_cons ev_non ea_nil) (ln (by simp))) (ea_cons ann (ea_cons (ev_tup (ds := [annD]) (ea_cons ann ea_nil) (ln (by simp))) (ea_cons (ev_tup (ds := [.tuple [.int 0, .int 1], .tuple [.tuple [.int 0, .int 1]]]) (ea_cons (ev_i2 ev_int ev_int) (ea_cons (ev_tup (ds := [.tuple [.int 0, .int 1]]) (ea_cons (ev_i2 ev_int ev_int) ea_nil) (ln (by simp))) ea_nil)) (ln (by simp))) (ea_cons (ev_tup (ds := [.tuple [], .str "ann"]) (ea_cons ev_t0 (ea_cons ev_str ea_nil)) (ln (by simp))) (ea_cons (ev_lst (ds := [.tuple [.tuple [], .str "ann"]]) (ea_cons (ev_tup (ds := [.tuple [], .str "ann"]) (ea_cons ev_t0 (ea_cons ev_str ea_nil)) (ln (by simp))) ea_nil) (ln (by simp))) (ea_cons (ev_i2 ev_int ev_int) ea_nil))))))) (ln (by simp [oddZ]))) g1 g2 (by decide)) ?_ sc_lodd.nd rfl (.inl rfl)
  have hc2 : (μ ++ [some (Cl.lst oddA)] ++ [some (Cl.lst oddZ)])[c]? = some (some g.d) := by
    rw [List.append_assoc, List.getElem?_append_left hcl]; exact hc
  refine bs_ret (ev_ixL (ev_var 1 rfl rfl (.inl rfl)) (ev_call d1 hr (by decide) rfl (ea_cons (ev_var 0 rfl rfl (.inl rfl)) (ea_cons (ev_callB call_len_seq rfl mlen PySem.boot_len (ea_cons (ev_var 1 rfl rfl (.inl rfl)) ea_nil) (rc_lenL rfl)) ea_nil)) (phB.mk 24 ⟨by omega, by omega⟩ hg hc2)) rfl (at_pick (l := oddA ++ oddZ) (take_lo g (by omega)) (by rw [odd_len]; exact take_hi g (by omega)))) ⟨⟨[some (Cl.lst oddA)] ++ [some (Cl.lst oddZ)], ?_⟩, rfl⟩
  rw [List.append_assoc, List.set_append_left _ _ hcl]; rfl
abbrev s_lsp : Stmt := topS 33
theorem sc_lsp : FnScope ["bag", "thing", "kind_so", "rows", "at", "other"] ["bag", "thing"] (defScope s_lsp) := ⟨rfl, rfl, rfl, by decide +kernel, rfl, by decide +kernel, by decide +kernel⟩
def NcK (n : Nat) (d : Dt) : Prop := ∃ j, j ≤ 5 ∧ Nice j n d
def ph_sp (n : Nat) : Phi := phB (fun d : Dt => NcK n d) (fun d => [.d d]) (fun d s => (spR n d s).2) (fun d s => (spR n d s).1)
theorem ok_sp {n : Nat} {f : Addr} {fd : FuncData} (F : Fun K "_law_spoilt" "_law_spoilt" s_lsp f fd) (misi : mg "isinstance" = none) (mtup : mg "tuple" = none) (mlist : mg "list" = none) (mlen : mg "len" = none) (mstr : mg "str" = none) (mint : mg "int" = none) (d1 : Df P w K mg base 1 "_law_take" ph_take) (d2 : Df P w K mg base 2 "_law_odd" ph_lodd) (hrec : ∀ m, n = m + 1 → Df P w K mg base (m + 3) "_law_spoilt" (ph_sp m)) : FnOk P w K mg base CX0 (n + 3) f fd ["bag", "thing"] (SpD K (ph_sp n)) := by
  refine fn_b F sc_lsp (fun _ => rfl) fun cdv A outer s H E hr d hp μ c g hg hc => ?_
  obtain ⟨j, hj5, hn⟩ : NcK n d := hp
  have hcl := lt_get hc
  have hk0 := take_lo g (n := 9) (by omega)
  have hk9 := take_hi g (n := 9) (by omega)
  have hg1 : (takeB g 9).ok := take_ok (by omega) hg
  refine bs_set 2 (ev_call d1 hr (by omega) rfl (ea_cons (ev_var 0 rfl rfl (.inl rfl)) (ea_cons ev_int ea_nil)) (phB.mk 9 ⟨by omega, by omega⟩ hg hc)) ?_ sc_lsp.nd rfl (.inl rfl)
  have hc1 : (μ.set c (some (takeB g 9).d))[c]? = some (some (takeB g 9).d) := bag_at hc
  by_cases hcond : ∃ b xs, seqOf d = some (b, xs) ∧ 0 < xs.length ∧ 0 < takeV g 9
  · obtain ⟨b, xs, hso, hxl, hkp⟩ := hcond
    obtain rfl := seqOf_is hso
    obtain ⟨_, n', rfl, hlen, hx⟩ := nice_seqOf hn hso
    have hR : spR (n' + 1) (seqD b xs) g = spG (spR n') b xs (takeV g 9) (takeB g 9) := by
      conv => lhs; unfold spR
      rw [hso]
      exact if_pos ⟨hxl, hkp⟩
    have drec := hrec n' rfl
    refine bs_then (b1_if (k := true && (decide ((0 : Int) < (xs.length : Int)) && decide (0 < takeV g 9))) (et_w (ew_and (k := true) (et_val (by
      rw [← seq_is b xs]
      exact ev_isi2 (ev_var 1 rfl rfl (.inl rfl)) rfl (kit_tup _) (kit_lst _) rfl misi rfl mtup (by decide +kernel) rfl mlist (by decide +kernel)) (by intro _; rfl)) (fun _ => ew_and (et_cmp (ev_callB call_len_seq rfl mlen PySem.boot_len (ea_cons (ev_var 1 rfl rfl (.inl rfl)) ea_nil) rc_lenK) ev_int c_gt rfl) (fun _ => ew_and1 (et_cmp (ev_var 2 rfl rfl (.inl rfl)) ev_int c_gt rfl)) (fun _ => rfl)) (fun z => by cases z))) (fun _ => ?_) (fun z => ?_))
    rotate_left
    · rw [decide_eq_true (show (0 : Int) < (xs.length : Int) by omega), decide_eq_true hkp] at z; cases z
    rw [hR]
    generalize hkd : takeV g 9 = k at *
    generalize takeB g 9 = g1 at *
    have hat := spAt_lt hxl g1
    have hg2 : (spNx xs g1).ok := take_ok (by omega) hg1
    -- rows = list(thing)
    refine bs_set 3 (ev_callT call_list_of rfl mlist (by decide +kernel) (ea_cons (ev_var 1 rfl rfl (.inl rfl)) ea_nil) rc_listC) ?_ sc_lsp.nd rfl (.inl rfl)
    have hml : (μ.set c (some g1.d)).length = μ.length := List.length_set
    rw [hml]
    have hc2 : (μ.set c (some g1.d) ++ [some (Cl.lst xs)])[c]? = some (some g1.d) := by rw [List.getElem?_append_left (by rw [hml]; exact hcl)]; exact hc1
    have hr2 : ∀ (s : Bag) (ys : List Dt), (μ.set c (some s.d) ++ [some (Cl.lst ys)])[μ.length]? = some (some (Cl.lst ys)) := fun s ys => by
      have e : (μ.set c (some s.d)).length = μ.length := List.length_set
      rw [← e]; exact get_last _ _
    have hcS : ∀ (s : Bag) (ν : MU), (μ.set c (some s.d) ++ ν)[c]? = some (some s.d) := fun s ν => by
      rw [List.getElem?_append_left (by rw [List.length_set]; exact hcl)]; exact bag_at hc
    have setS : ∀ (s s' : Bag) (ν : MU), (μ.set c (some s.d) ++ ν).set c (some s'.d) = μ.set c (some s'.d) ++ ν := fun s s' ν => by
      rw [List.set_append_left _ _ (by rw [List.length_set]; exact hcl), set2]
    have setL : ∀ (s : Bag) (ys : List Dt) (o : Option Cl), (μ.set c (some s.d) ++ [some (Cl.lst ys)]).set μ.length o = μ.set c (some s.d) ++ [o] := fun s ys o => by
      have e : (μ.set c (some s.d)).length = μ.length := List.length_set
      rw [List.set_append_right _ _ (by rw [e]; exact Nat.le_refl _), e, Nat.sub_self]; rfl
    -- at = _law_take(bag, len(rows))
    refine bs_set 4 (ev_call d1 hr (by omega) rfl (ea_cons (ev_var 0 rfl rfl (.inl rfl)) (ea_cons (ev_callB call_len_seq rfl mlen PySem.boot_len (ea_cons (ev_var 3 rfl rfl (.inl rfl)) ea_nil) (rc_lenL ⟨xs, hr2 _ _, rfl⟩)) ea_nil)) (phB.mk (xs.length : Int) ⟨show (0 : Int) < xs.length by omega, show (xs.length : Int) < 2 ^ 60 by omega⟩ hg1 hc2)) ?_ sc_lsp.nd rfl (.inl rfl)
    rw [setS, spAt_int hxl]
    show Bs _ _ _ (μ.set c (some (spNx xs g1).d) ++ [some (Cl.lst xs)]) _
    have hu := hr.units
    have gi : atI xs (spAt xs g1 : Int) = some (getD0 xs (spAt xs g1)) := atI_nat (getD0_at hat)
    have hat1 : ((spAt xs g1 : Nat) : Int) + 1 = ((spAt xs g1 + 1 : Nat) : Int) := by omega
    refine bs_cons (M := fun env m => ∃ x ys s2 e4 e5, env = [some (.c c), some (.d (seqD b xs)), some (.d (.int k)), some x, e4, e5] ∧ ((x = .d (.list ys) ∧ ∃ ν, m = μ.set c (some (Bag.d s2)) ++ ν) ∨ (x = .c μ.length ∧ m = μ.set c (some (Bag.d s2)) ++ [some (Cl.lst ys)])) ∧ spG (spR n') b xs k g1 = (seqD b ys, s2)) ?_ fun env m h => ?_
    · refine b1_if (k := decide (k = 1)) (by
        rw [← eqv_int]
        exact et_cmp (ev_var 2 rfl rfl (.inl rfl)) ev_int (c_eq hu rfl rfl (shaped_int _) (shaped_int _)) rfl) (fun e => ?_) (fun e => ?_)
      · have e : k = 1 := of_decide_eq_true e
        refine bs_one (b1_set 3 (ev_cat (us := cutD xs none (some (spAt xs g1 : Int))) (ws := cutD xs (some ((spAt xs g1 : Int) + 1)) none) (ev_slLC (ds := xs) (ev_var 3 rfl rfl (.inl rfl)) ⟨xs, hr2 _ _, rfl⟩ eo_none (eo_some (ev_var 4 rfl rfl (.inl rfl)))) (ev_slLC (ds := xs) (ev_var 3 rfl rfl (.inl rfl)) ⟨xs, ?_, rfl⟩ (eo_some (ev_add (ev_var 4 rfl rfl (.inl rfl)) ev_int)) eo_none) ?_ ?_ ?_) ⟨_, _, spNx xs g1, _, _, rfl, .inl ⟨rfl, ?_⟩, ?_⟩ sc_lsp.nd rfl (.inl rfl))
        · rw [List.getElem?_append_left (lt_get (hr2 _ _))]; exact hr2 _ _
        · rw [List.getElem?_append_left (by simp)]; exact get_last _ _
        · exact get_last _ _
        · rw [hat1, cut_lo, cut_hi _ (by omega), List.length_take, List.length_drop]; omega
        · exact ⟨_, by rw [List.append_assoc, List.append_assoc]⟩
        · rw [hat1, cut_lo, cut_hi _ (by omega)]
          unfold spG
          rw [if_pos e]
      · have e1 : ¬ k = 1 := of_decide_eq_false e
        refine bs_one (b1_if (k := decide (k = 2)) (by
          rw [← eqv_int]
          exact et_cmp (ev_var 2 rfl rfl (.inl rfl)) ev_int (c_eq hu rfl rfl (shaped_int _) (shaped_int _)) rfl) (fun e => ?_) (fun e => ?_))
        · have e : k = 2 := of_decide_eq_true e
          refine bs_one (b1_set 3 (ev_cat (us := cutD xs none (some ((spAt xs g1 : Int) + 1))) (ws := cutD xs (some (spAt xs g1 : Int)) none) (ev_slLC (ds := xs) (ev_var 3 rfl rfl (.inl rfl)) ⟨xs, hr2 _ _, rfl⟩ eo_none (eo_some (ev_add (ev_var 4 rfl rfl (.inl rfl)) ev_int))) (ev_slLC (ds := xs) (ev_var 3 rfl rfl (.inl rfl)) ⟨xs, ?_, rfl⟩ (eo_some (ev_var 4 rfl rfl (.inl rfl))) eo_none) ?_ ?_ ?_) ⟨_, _, spNx xs g1, _, _, rfl, .inl ⟨rfl, ?_⟩, ?_⟩ sc_lsp.nd rfl (.inl rfl))
          · rw [List.getElem?_append_left (lt_get (hr2 _ _))]; exact hr2 _ _
          · rw [List.getElem?_append_left (by simp)]; exact get_last _ _
          · exact get_last _ _
          · rw [hat1, cut_lo, cut_hi _ (by omega), List.length_take, List.length_drop]; omega
          · exact ⟨_, by rw [List.append_assoc, List.append_assoc]⟩
          · rw [hat1, cut_lo, cut_hi _ (by omega)]
            unfold spG
            rw [if_neg e1, if_pos e]
        · have e2 : ¬ k = 2 := of_decide_eq_false e
          refine bs_one (b1_if (k := decide (k = 3)) (by
            rw [← eqv_int]
            exact et_cmp (ev_var 2 rfl rfl (.inl rfl)) ev_int (c_eq hu rfl rfl (shaped_int _) (shaped_int _)) rfl) (fun e => ?_) (fun e => ?_))
          · have e : k = 3 := of_decide_eq_true e
            refine bs_set 5 (ev_call d1 hr (by omega) rfl (ea_cons (ev_var 0 rfl rfl (.inl rfl)) (ea_cons (ev_callB call_len_seq rfl mlen PySem.boot_len (ea_cons (ev_var 3 rfl rfl (.inl rfl)) ea_nil) (rc_lenL ⟨xs, hr2 _ _, rfl⟩)) ea_nil)) (phB.mk (xs.length : Int) ⟨show (0 : Int) < xs.length by omega, show (xs.length : Int) < 2 ^ 60 by omega⟩ hg2 (hcS _ _))) ?_ sc_lsp.nd rfl (.inl rfl)
            rw [setS, spAt_int hxl]
            have hot := spAt_lt hxl (spNx xs g1)
            have gj : atI xs (spAt xs (spNx xs g1) : Int) = some (getD0 xs (spAt xs (spNx xs g1))) := atI_nat (getD0_at hot)
            refine bs_one (b1_swap (ds := xs) (d := getD0 xs (spAt xs (spNx xs g1))) (f := getD0 xs (spAt xs g1)) rfl (ev_tup (ds := [getD0 xs (spAt xs (spNx xs g1)), getD0 xs (spAt xs g1)]) (ea_cons (ev_ixL (ev_var 3 rfl rfl (.inl rfl)) (ev_var 5 rfl rfl (.inl rfl)) ⟨xs, hr2 _ _, rfl⟩ gj) (ea_cons (ev_ixL (ev_var 3 rfl rfl (.inl rfl)) (ev_var 4 rfl rfl (.inl rfl)) ⟨xs, hr2 _ _, rfl⟩ gi) ea_nil)) (ln (by simp))) (hr2 _ _) (ev_var 3 rfl rfl (.inl rfl)) (ev_var 4 rfl rfl (.inl rfl)) (ix_nat hat) (ev_var 3 rfl rfl (.inl rfl)) (ev_var 5 rfl rfl (.inl rfl)) (ix_nat hot) ⟨_, _, spNx xs (spNx xs g1), _, _, rfl, .inr ⟨rfl, setL _ _ _⟩, ?_⟩)
            unfold spG
            rw [if_neg e1, if_neg e2, if_pos e]
          · have e3 : ¬ k = 3 := of_decide_eq_false e
            refine bs_one (b1_if (k := decide (k = 4)) (by
              rw [← eqv_int]
              exact et_cmp (ev_var 2 rfl rfl (.inl rfl)) ev_int (c_eq hu rfl rfl (shaped_int _) (shaped_int _)) rfl) (fun e => ?_) (fun e => ?_))
            · have e : k = 4 := of_decide_eq_true e
              have hG : spG (spR n') b xs k g1 = (seqD (!b) xs, spNx xs g1) := by
                unfold spG
                rw [if_neg e1, if_neg e2, if_neg e3, if_pos e]
              rw [hG]
              cases b with
              | false =>
                refine bs_ret (ev_if (k := true) (et_val (ev_isi (ev_var 1 rfl rfl (.inl rfl)) rfl (kit_tup _) rfl misi rfl mtup (by decide +kernel)) (by intro _; rfl)) (fun _ => ev_freeze (ev_var 3 rfl rfl (.inl rfl)) (hr2 _ _)) (fun z => by cases z)) ⟨⟨_, setL _ _ _⟩, rfl⟩
              | true =>
                refine bs_ret (ev_if (k := false) (et_val (ev_isi (ev_var 1 rfl rfl (.inl rfl)) rfl (kit_tup _) rfl misi rfl mtup (by decide +kernel)) (by intro _; rfl)) (fun z => by cases z) (fun _ => ev_callT call_tuple_of rfl mtup (by decide +kernel) (ea_cons (ev_var 3 rfl rfl (.inl rfl)) ea_nil) (rc_tupleL (ds := xs) ⟨xs, hr2 _ _, rfl⟩))) ⟨⟨_, rfl⟩, rfl⟩
            · have e4 : ¬ k = 4 := of_decide_eq_false e
              refine bs_one (b1_put (ds := xs) (ev_call drec hr (by omega) rfl (ea_cons (ev_var 0 rfl rfl (.inl rfl)) (ea_cons (ev_ixL (ev_var 3 rfl rfl (.inl rfl)) (ev_var 4 rfl rfl (.inl rfl)) ⟨xs, hr2 _ _, rfl⟩ gi) ea_nil)) (phB.mk (getD0 xs (spAt xs g1)) ⟨j, hj5, hx _ (getD0_mem hat)⟩ hg2 (hcS _ _))) (ev_var 3 rfl rfl (.inl rfl)) (ev_var 4 rfl rfl (.inl rfl)) (by rw [setS]; exact hr2 _ _) (ix_nat hat) ⟨_, _, (spR n' (getD0 xs (spAt xs g1)) (spNx xs g1)).2, _, _, rfl, .inr ⟨rfl, by rw [setS]; exact setL _ _ _⟩, ?_⟩)
              unfold spG
              rw [if_neg e1, if_neg e2, if_neg e3, if_neg e4]
    · obtain ⟨x, ys, s2, e4, e5, rfl, hx2, hG⟩ := h
      rw [hG]
      rcases hx2 with ⟨rfl, ν, rfl⟩ | ⟨rfl, rfl⟩
      · cases b with
        | false => exact bs_ret (ev_if (k := true) (et_val (ev_isi (ev_var 1 rfl rfl (.inl rfl)) rfl (kit_tup _) rfl misi rfl mtup (by decide +kernel)) (by intro _; rfl)) (fun _ => ev_callT call_tuple_of rfl mtup (by decide +kernel) (ea_cons (ev_var 3 rfl rfl (.inl rfl)) ea_nil) (rc_tupleL (ds := ys) rfl)) (fun z => by cases z)) ⟨⟨_, rfl⟩, rfl⟩
        | true => exact bs_ret (ev_if (k := false) (et_val (ev_isi (ev_var 1 rfl rfl (.inl rfl)) rfl (kit_tup _) rfl misi rfl mtup (by decide +kernel)) (by intro _; rfl)) (fun z => by cases z) (fun _ => ev_var 3 rfl rfl (.inl rfl))) ⟨⟨_, rfl⟩, rfl⟩
      · cases b with
        | false => exact bs_ret (ev_if (k := true) (et_val (ev_isi (ev_var 1 rfl rfl (.inl rfl)) rfl (kit_tup _) rfl misi rfl mtup (by decide +kernel)) (by intro _; rfl)) (fun _ => ev_callT call_tuple_of rfl mtup (by decide +kernel) (ea_cons (ev_var 3 rfl rfl (.inl rfl)) ea_nil) (rc_tupleL (ds := ys) ⟨ys, hr2 _ _, rfl⟩)) (fun z => by cases z)) ⟨⟨_, rfl⟩, rfl⟩
        | true => exact bs_ret (ev_if (k := false) (et_val (ev_isi (ev_var 1 rfl rfl (.inl rfl)) rfl (kit_tup _) rfl misi rfl mtup (by decide +kernel)) (by intro _; rfl)) (fun z => by cases z) (fun _ => ev_freeze (ev_var 3 rfl rfl (.inl rfl)) (hr2 _ _))) ⟨⟨_, setL _ _ _⟩, rfl⟩
  · have hR : spR n d g = spS d g := by
      cases n with
      | zero => rfl
      | succ n =>
        conv => lhs; unfold spR
        cases hso : seqOf d with
        | none => rfl
        | some q =>
          obtain ⟨b, xs⟩ := q
          exact if_neg fun z => hcond ⟨b, xs, hso, z.1, z.2⟩
    rw [hR]
    refine bs_then (b1_if (μ1 := μ.set c (some (takeB g 9).d)) (k := false) ?_ (fun z => by cases z) (fun _ => ?_))
    · cases hso : seqOf d with
      | none =>
        refine et_w (ew_and (k := false) (k' := false) (et_val (by
          rw [← seqOf_no hso]
          exact ev_isi2 (ev_var 1 rfl rfl (.inl rfl)) rfl (kit_tup _) (kit_lst _) rfl misi rfl mtup (by decide +kernel) rfl mlist (by decide +kernel)) (by intro _; rfl)) (fun z => by cases z) (fun _ => rfl))
      | some q =>
        obtain ⟨b, xs⟩ := q
        obtain rfl := seqOf_is hso
        have hz : (true && (decide ((0 : Int) < (xs.length : Int)) && decide (0 < takeV g 9))) = false := by
          rw [Bool.true_and, ← Bool.decide_and]
          exact decide_eq_false fun z => hcond ⟨b, xs, hso, by omega, z.2⟩
        rw [← hz]
        exact et_w (ew_and (k := true) (et_val (by
          rw [← seq_is b xs]
          exact ev_isi2 (ev_var 1 rfl rfl (.inl rfl)) rfl (kit_tup _) (kit_lst _) rfl misi rfl mtup (by decide +kernel) rfl mlist (by decide +kernel)) (by intro _; rfl)) (fun _ => ew_and (et_cmp (ev_callB call_len_seq rfl mlen PySem.boot_len (ea_cons (ev_var 1 rfl rfl (.inl rfl)) ea_nil) rc_lenK) ev_int c_gt rfl) (fun _ => ew_and1 (et_cmp (ev_var 2 rfl rfl (.inl rfl)) ev_int c_gt rfl)) (fun _ => rfl)) (fun z => by cases z))
    refine bs_nil (bs_then (b1_if (k := isStrD d && decide (1 < takeV g 9)) (et_w (ew_and (et_val (ev_isi (ev_var 1 rfl rfl (.inl rfl)) rfl (kit_str d) rfl misi rfl mstr (by decide +kernel)) (by intro _; rfl)) (fun _ => ew_and1 (et_cmp (ev_var 2 rfl rfl (.inl rfl)) ev_int c_gt rfl)) (fun _ => rfl))) (fun e => ?_) (fun e => ?_)))
    · rw [Bool.and_eq_true, decide_eq_true_eq] at e
      obtain ⟨t, rfl⟩ : ∃ t, d = .str t := by cases d <;> first | exact ⟨_, rfl⟩ | cases e.1
      obtain ⟨hl, ha⟩ := Nc.str ⟨j, 0, hj5, by omega, .str hn.strb.1 hn.strb.2⟩
      have hS : spS (.str t) g = (pickD (txtL t) (takeV g 9 - 2), takeB g 9) := by unfold spS; rw [if_pos e.2]
      rw [hS]
      have l1 : ("a" : Str).length = 1 := by decide
      have l2 : (" " : Str).length = 1 := by decide
      have l3 : ("z" : Str).length = 1 := by decide
      have hZ : ∀ {n : Nat}, n ≤ 3000000 → n ≤ sizeLine := fun z => Nat.le_trans z (by decide)
      refine bs_ret (ev_ixL (ds := txtL t) (ev_lst (ds := txtL t) (ea_cons (ev_addS (ev_var 1 rfl rfl (.inl rfl)) ev_str (hZ (by omega))) (ea_cons (ev_slS (ev_var 1 rfl rfl (.inl rfl)) eo_none (eo_some (ev_neg ev_int)) hl) (ea_cons (ev_addS (ev_var 1 rfl rfl (.inl rfl)) ev_str (hZ (by omega))) (ea_cons (ev_upper (ev_var 1 rfl rfl (.inl rfl)) hl) (ea_cons (ev_addS (ev_var 1 rfl rfl (.inl rfl)) (ev_var 1 rfl rfl (.inl rfl)) (hZ (by omega))) (ea_cons (ev_addS ev_str (ev_var 1 rfl rfl (.inl rfl)) (hZ (by omega))) (ea_cons ev_str ea_nil))))))) (ln (by simp [txtL]))) (ev_sub (ev_var 2 rfl rfl (.inl rfl)) ev_int) rfl (at_pick (by omega) (by show _ < (7 : Int); omega))) ⟨mu_end _, rfl⟩
    · refine bs_nil (bs_then (b1_if (k := isIntD d && decide (1 < takeV g 9)) (et_w (ew_and (et_val (ev_isi (ev_var 1 rfl rfl (.inl rfl)) rfl (kit_int d) rfl misi rfl mint (by decide +kernel)) (by intro _; rfl)) (fun _ => ew_and1 (et_cmp (ev_var 2 rfl rfl (.inl rfl)) ev_int c_gt rfl)) (fun _ => rfl))) (fun e2 => ?_) (fun e2 => ?_)))
      · rw [Bool.and_eq_true, decide_eq_true_eq] at e2
        cases d with
        | int i =>
          have hS : spS (.int i) g = (pickD (intL i) (takeV g 9 - 2), takeB g 9) := by unfold spS; rw [if_pos e2.2]
          rw [hS]
          have hi := hn.intb
          have hlg : i.natAbs.log2 < 1920 := by
            by_cases h0 : i.natAbs = 0
            · rw [h0]; decide
            · exact (Nat.log2_lt h0).mpr (Nat.lt_of_le_of_lt hi (Nat.lt_of_lt_of_le (show 2 ^ 230 + 2000 + 1000 * j < 2 ^ 231 by omega) (Nat.pow_le_pow_right (by omega) (by omega))))
          exact bs_ret (ev_ixL (ds := intL i) (ev_lst (ds := intL i) (ea_cons (ev_add (ev_var 1 rfl rfl (.inl rfl)) ev_int) (ea_cons (ev_sub (ev_var 1 rfl rfl (.inl rfl)) ev_int) (ea_cons (ev_neg (ev_var 1 rfl rfl (.inl rfl))) (ea_cons (ev_add (ev_var 1 rfl rfl (.inl rfl)) ev_int) (ea_cons (ev_callT call_str_int rfl mstr (by decide +kernel) (ea_cons (ev_var 1 rfl rfl (.inl rfl)) ea_nil) (rc_strI hlg)) (ea_cons (ev_add (ev_var 1 rfl rfl (.inl rfl)) ev_int) (ea_cons (ev_tup (ds := [.int i]) (ea_cons (ev_var 1 rfl rfl (.inl rfl)) ea_nil) (ln (by simp))) ea_nil))))))) (ln (by simp [intL]))) (ev_sub (ev_var 2 rfl rfl (.inl rfl)) ev_int) rfl (at_pick (by omega) (by show _ < (7 : Int); omega))) ⟨mu_end _, rfl⟩
        | bool b =>
          have hS : spS (.bool b) g = (pickD (blL b) (takeV g 9 - 2), takeB g 9) := by unfold spS; rw [if_pos e2.2]
          rw [hS]
          exact bs_ret (ev_ixL (ds := blL b) (ev_lst (ds := blL b) (ea_cons (ev_addB (ev_var 1 rfl rfl (.inl rfl)) ev_int) (ea_cons (ev_subB (ev_var 1 rfl rfl (.inl rfl)) ev_int) (ea_cons (ev_negB (ev_var 1 rfl rfl (.inl rfl))) (ea_cons (ev_addB (ev_var 1 rfl rfl (.inl rfl)) ev_int) (ea_cons (ev_callT call_strB rfl mstr (by decide +kernel) (ea_cons (ev_var 1 rfl rfl (.inl rfl)) ea_nil) rc_strB) (ea_cons (ev_addB (ev_var 1 rfl rfl (.inl rfl)) ev_int) (ea_cons (ev_tup (ds := [.bool b]) (ea_cons (ev_var 1 rfl rfl (.inl rfl)) ea_nil) (ln (by simp))) ea_nil))))))) (ln (by simp [blL]))) (ev_sub (ev_var 2 rfl rfl (.inl rfl)) ev_int) rfl (at_pick (by omega) (by show _ < (7 : Int); omega))) ⟨mu_end _, rfl⟩
        | none => cases e2.1
        | str t => cases e2.1
        | list xs => cases e2.1
        | tuple xs => cases e2.1
        | dict kv => cases e2.1
      · have hS : spS d g = (oddV (takeB g 9), oddB (takeB g 9)) := by
          unfold spS
          by_cases h1 : 1 < takeV g 9
          · rw [if_pos h1]
            rw [decide_eq_true h1, Bool.and_true] at e e2
            cases d <;> first | rfl | (cases e; done) | (cases e2; done)
          · rw [if_neg h1]
        rw [hS]
        refine bs_nil (bs_ret (ev_call d2 hr (by omega) rfl (ea_cons (ev_var 0 rfl rfl (.inl rfl)) ea_nil) (phB.mk () True.intro hg1 hc1)) ⟨?_, rfl⟩)
        rw [set2]; exact mu_end _
abbrev s_iam2 : Stmt := topS 10
theorem sc_iam2 : FnScope ["one", "other"] ["one", "other"] (defScope s_iam2) := ⟨rfl, rfl, rfl, by decide +kernel, rfl, by decide +kernel, by decide +kernel⟩
def ph_iam2 : Phi := phP (fun t : PQ × PQ => PqOk 3900 t.1 ∧ PqOk 3900 t.2) (fun t => [.d (pD t.1), .d (pD t.2)]) (fun t => .bool (leP t.1 t.2))
theorem ok_iam2 {f : Addr} {fd : FuncData} (F : Fun K "is_at_most" "is_at_most" s_iam2 f fd)  : FnOk P w K mg base CX0 1 f fd ["one", "other"] (SpD K ph_iam2) := by
  refine fn_p F sc_iam2 (fun _ => rfl) fun cdv A outer s H E hr t hp μ => ?_
  obtain ⟨⟨a, b⟩, ⟨c, d⟩⟩ := t
  obtain ⟨hx, hy⟩ : PqOk 3900 (a, b) ∧ PqOk 3900 (c, d) := hp
  exact bs_ret (ev_cmp (ev_mul (ev_ixT (ev_var 0 rfl rfl (.inl rfl)) ev_int rfl) (ev_ixT (ev_var 1 rfl rfl (.inl rfl)) ev_int rfl) (small_mul (pw_up hx.s1 (by omega)) (pw_up hy.s2 (by omega)))) (ev_mul (ev_ixT (ev_var 1 rfl rfl (.inl rfl)) ev_int rfl) (ev_ixT (ev_var 0 rfl rfl (.inl rfl)) ev_int rfl) (small_mul (pw_up hy.s1 (by omega)) (pw_up hx.s2 (by omega)))) c_le rfl) ⟨mu_end _, rfl⟩
abbrev s_fgl : Stmt := topS 20
theorem sc_fgl : FnScope ["raft", "folk", "gap", "name", "at", "heavy", "reach", "top", "bottom", "whole", "others"] ["raft", "folk", "gap", "name"] (defScope s_fgl) := ⟨rfl, rfl, rfl, by decide +kernel, rfl, by decide +kernel, by decide +kernel⟩
structure FglA where
  r : Raft
  fs : List Man
  g : PQ
  m : Man
structure FglO (t : FglA) : Prop where
  rf : t.r.ok
  mn : Men t.fs
  nd : (t.fs.map (·.nm)).Nodup
  nm : NmOk t.fs
  mem : t.m ∈ t.fs
  pq : PqOk 1900 t.g
def ph_fgl : Phi := phP FglO (fun t => [.d (raftD t.r), .d (folkD t.fs), .d (pD t.g), .d (.str t.m.nm)]) (fun t => poD (fglP t.r t.fs t.g t.m))
theorem ok_fgl {f : Addr} {fd : FuncData} (F : Fun K "front_gap_less" "front_gap_less" s_fgl f fd) (d_ix : Df P w K mg base 1 "index_of" ph_index_of) (d_hwith : Df P w K mg base 2 "heavy_with" ph_heavy_with) (d_hof : Df P w K mg base 1 "heavy_of" ph_heavy_of) : FnOk P w K mg base CX0 3 f fd ["raft", "folk", "gap", "name"] (SpD K ph_fgl) := by
  refine fn_p F sc_fgl (fun _ => rfl) fun cdv A outer s H E hr t h μ => ?_
  obtain ⟨r, fs, ⟨tp, bt⟩, m⟩ := t
  have hrf : r.ok := h.rf
  have hmn : Men fs := h.mn
  have hmem : m ∈ fs := h.mem
  have hpq : PqOk 1900 (tp, bt) := h.pq
  have h1 : tp.natAbs < 2 ^ 1900 := hpq.s1
  have h2 : bt.natAbs < 2 ^ 1900 := hpq.s2
  obtain ⟨j, hj⟩ := List.getElem?_of_mem hmem
  have hix := isAt_of h.nd hj
  have hok := hmn.2 m hmem
  have hv1 := hok.1
  have hv2 := hok.2.1
  have hc1 := hok.2.2.1
  have hc2 := hok.2.2.2
  have ht := tot_bd hrf hmn
  have hwt := hmn.wt
  have hge := wt_ge hmn.2 hmem
  have hlg1 := hrf.1
  have hlg2 := hrf.2.1
  have hnm := h.nm m hmem
  have hl7 := hmn.1
  have hat : atI (fs.map manD) (j : Int) = some (manD m) := atI_nat (by rw [List.getElem?_map, hj]; rfl)
  refine bs_set 4 (ev_is (y := .d (.int (j : Int))) (ev_call d_ix hr (by decide) rfl (ea_cons (ev_var 1 rfl rfl (.inl rfl)) (ea_cons (ev_var 3 rfl rfl (.inl rfl)) ea_nil)) (phP.mk (fs, m.nm) ⟨h.nm, hnm⟩)) (by show DE.d (ixD (ixOf fs m.nm)) = _; rw [hix]; rfl)) ?_ sc_fgl.nd rfl (.inl rfl)
  refine bs_then (b1_if (k := false) (et_cmp (ev_var 4 rfl rfl (.inl rfl)) ev_non c_isN rfl) (fun z => by cases z) (fun _ => bs_nil ?_))
  refine bs_then (b1_par 5 6 (ea_cons (ev_ixT (ev_ixT (ev_var 1 rfl rfl (.inl rfl)) (ev_var 4 rfl rfl (.inl rfl)) hat) ev_int rfl) (ea_cons (ev_ixT (ev_ixT (ev_var 1 rfl rfl (.inl rfl)) (ev_var 4 rfl rfl (.inl rfl)) hat) ev_int rfl) ea_nil)) ?_ rfl sc_fgl.nd rfl rfl (by decide) rfl rfl)
  refine bs_then (b1_asg (ev_var 2 rfl rfl (.inl rfl)) (tg_tup (ds := [.int tp, .int bt]) rfl (tgl_cons (tg_name 7 sc_fgl.nd rfl (.inl rfl)) (tgl_cons (tg_name 8 sc_fgl.nd rfl (.inl rfl)) tgl_nil))) ?_)
  refine bs_set 9 (ev_call d_hwith hr (by decide) rfl (ea_cons (ev_var 0 rfl rfl (.inl rfl)) (ea_cons (ev_var 1 rfl rfl (.inl rfl)) ea_nil)) (phP.mk (r, fs) (show fs.length ≤ 1000 by omega))) ?_ sc_fgl.nd rfl (.inl rfl)
  refine bs_set 10 (ev_sub (ev_call d_hof hr (by decide) rfl (ea_cons (ev_var 1 rfl rfl (.inl rfl)) ea_nil) (phP.mk fs (show fs.length ≤ 1000 by omega))) (ev_var 5 rfl rfl (.inl rfl))) ?_ sc_fgl.nd rfl (.inl rfl)
  have hT : (tot r fs).natAbs < 2 ^ 12 := by omega
  have hO : (wt fs - m.hv).natAbs < 2 ^ 12 := by omega
  have hL : r.lg.natAbs < 2 ^ 10 := by omega
  have hC : m.rc.natAbs < 2 ^ 7 := by omega
  have hV : m.hv.natAbs < 2 ^ 8 := by omega
  have hW : (tot r fs - m.hv).natAbs < 2 ^ 12 := by have := hrf.2.2.1; unfold tot at ht ⊢; omega
  refine bs_then (b1_if (k := decide (m.rc * tot r fs * bt < tp * tot r fs - r.lg * (wt fs - m.hv) * bt)) (et_cmp (ev_sub (ev_mul (ev_var 7 rfl rfl (.inl rfl)) (ev_var 9 rfl rfl (.inl rfl)) (small_mul (pw_up h1 (by omega)) (pw_up hT (by omega)))) (ev_mul (ev_mul (ev_ixT (ev_var 0 rfl rfl (.inl rfl)) ev_int rfl) (ev_var 10 rfl rfl (.inl rfl)) (small_mul (pw_up hL (by omega)) (pw_up hO (by omega)))) (ev_var 8 rfl rfl (.inl rfl)) (small_mul (pw_up (pw_mulI hL hO) (by omega)) (pw_up h2 (by omega))))) (ev_mul (ev_mul (ev_var 6 rfl rfl (.inl rfl)) (ev_var 9 rfl rfl (.inl rfl)) (small_mul (pw_up hC (by omega)) (pw_up hT (by omega)))) (ev_var 8 rfl rfl (.inl rfl)) (small_mul (pw_up (pw_mulI hC hT) (by omega)) (pw_up h2 (by omega)))) c_gt rfl) (fun e => ?_) (fun e => bs_nil ?_))
  · have e := of_decide_eq_true e
    refine bs_ret ev_non ⟨mu_end _, ?_⟩
    show _ = DE.d (poD (fglP r fs (tp, bt) m))
    unfold fglP; rw [if_pos e]; rfl
  · have e := of_decide_eq_false e
    refine bs_then (b1_if (k := decide (tp ≤ m.rc * bt)) (et_cmp (ev_var 7 rfl rfl (.inl rfl)) (ev_mul (ev_var 6 rfl rfl (.inl rfl)) (ev_var 8 rfl rfl (.inl rfl)) (small_mul (pw_up hC (by omega)) (pw_up h2 (by omega)))) c_le rfl) (fun e2 => ?_) (fun e2 => bs_nil ?_))
    · have e2 := of_decide_eq_true e2
      refine bs_ret (ev_var 2 rfl rfl (.inl rfl)) ⟨mu_end _, ?_⟩
      show _ = DE.d (poD (fglP r fs (tp, bt) m))
      unfold fglP; rw [if_neg e, if_pos e2]; rfl
    · have e2 := of_decide_eq_false e2
      refine bs_ret (ev_tup2 (ev_sub (ev_mul (ev_var 7 rfl rfl (.inl rfl)) (ev_var 9 rfl rfl (.inl rfl)) (small_mul (pw_up h1 (by omega)) (pw_up hT (by omega)))) (ev_mul (ev_mul (ev_var 5 rfl rfl (.inl rfl)) (ev_var 6 rfl rfl (.inl rfl)) (small_mul (pw_up hV (by omega)) (pw_up hC (by omega)))) (ev_var 8 rfl rfl (.inl rfl)) (small_mul (pw_up (pw_mulI hV hC) (by omega)) (pw_up h2 (by omega))))) (ev_mul (ev_var 8 rfl rfl (.inl rfl)) (ev_sub (ev_var 9 rfl rfl (.inl rfl)) (ev_var 5 rfl rfl (.inl rfl))) (small_mul (pw_up h2 (by omega)) (pw_up hW (by omega))))) ⟨mu_end _, ?_⟩
      show _ = DE.d (poD (fglP r fs (tp, bt) m))
      unfold fglP; rw [if_neg e, if_neg e2]; rfl
abbrev s_lotsof : Stmt := topS 21
theorem sc_lotsof : FnScope ["folk", "found", "name", "heavy", "reach", "lot"] ["folk"] (defScope s_lotsof) := ⟨rfl, rfl, rfl, by decide +kernel, rfl, by decide +kernel, by decide +kernel⟩
def ph_lotsof : Phi := phP (fun fs : List Man => fs.length ≤ 7) (fun fs => [.d (folkD fs)]) (fun fs => .list ((lotsL fs).map encK))
theorem ok_lotsof {f : Addr} {fd : FuncData} (F : Fun K "lots_of" "lots_of" s_lotsof f fd) (m_sorted : mg "sorted" = none) : FnOk P w K mg base CX0 1 f fd ["folk"] (SpD K ph_lotsof) := by
  refine fn_p F sc_lotsof (fun _ => rfl) fun cdv A outer s H E hr fs hp μ => ?_
  have hp : fs.length ≤ 7 := hp
  have hnl : (nms fs).length = fs.length := List.length_map ..
  have hsl : ∀ i, (subL ((nms fs).take i)).length ≤ 128 := fun i => by
    rw [subL_len, List.length_take]
    calc 2 ^ min i (nms fs).length ≤ 2 ^ 7 := Nat.pow_le_pow_right (by omega) (by omega)
      _ = 128 := rfl
  refine bs_set 1 (ev_lst1 ev_tup0) ?_ sc_lotsof.nd rfl (.inl rfl)
  refine bs_cons (M := fun env m => (∃ e2 e3 e4 e5, env = [some (.d (folkD fs)), some (.d (.list ((subL (nms fs)).map encK))), e2, e3, e4, e5]) ∧ m = μ) ?_ fun env m z => ?_
  · refine b1_for (fun i env m => (∃ e2 e3 e4 e5, env = [some (.d (folkD fs)), some (.d (.list ((subL ((nms fs).take i)).map encK))), e2, e3, e4, e5]) ∧ m = μ) (it_tup (ds := fs.map manD) (ev_var 0 rfl rfl (.inl rfl))) ⟨⟨_, _, _, _, rfl⟩, rfl⟩ PassesOwn.never rfl ?_ ?_
    · rintro i d env m hd ⟨⟨e2, e3, e4, e5, rfl⟩, rfl⟩
      obtain ⟨mn, hi, rfl⟩ := map_get hd
      refine ⟨_, _, (tg_tup rfl (tgl_cons (tg_name 2 sc_lotsof.nd rfl (.inr rfl)) (tgl_cons (tg_name 3 sc_lotsof.nd rfl (.inl rfl)) (tgl_cons (tg_name 4 sc_lotsof.nd rfl (.inl rfl)) tgl_nil)))), ?_⟩
      have hi' : (nms fs)[i]? = some mn.nm := by unfold nms; rw [List.getElem?_map, hi]; rfl
      have ht : (nms fs).take (i + 1) = (nms fs).take i ++ [mn.nm] := by rw [List.take_add_one, hi']; rfl
      refine bs_one (b1_set 1 (x := .d (.list ((subL ((nms fs).take (i + 1))).map encK))) (ev_is (ev_catL (us := (subL ((nms fs).take i)).map encK) (ws := (subL ((nms fs).take i)).map (fun l => encK (l ++ [mn.nm]))) (ev_var 1 rfl rfl (.inl rfl)) (ev_lcm (own := [("lot", 5)]) (subL ((nms fs).take i)) encK (fun l => encK (l ++ [mn.nm])) rfl sc_lotsof.nd (blkOk_by (N := ["folk", "found", "name", "heavy", "reach", "lot"]) (sc := defScope s_lotsof) (by decide +kernel)) (it_list (ev_var 1 rfl rfl (.inl rfl))) (by have := hsl i; omega) fun l hl => ⟨_, _, by decide, fun s H C cl fp => (tg_name 5 sc_lotsof.nd rfl (.inl rfl)), fun s H C cl fp => ?_⟩) rfl rfl ?_) ?_) ⟨⟨_, _, _, _, rfl⟩, rfl⟩ sc_lotsof.nd rfl (.inl rfl))
      · have hll : l.length ≤ 7 := by
          have := ((subL_mem _ _).mp hl).length_le
          rw [List.length_take] at this; omega
        refine ev_is (y := .d (encK (l ++ [mn.nm]))) (ev_addT (ev_var 5 rfl rfl (.inl rfl)) (ev_tup1 (ev_var 2 rfl rfl (by first | exact .inr (.inl rfl) | exact .inr (.inr rfl)))) (ln (by rw [List.length_map]; simp; omega))) ?_
        show DE.d (.tuple (l.map .str ++ [.str mn.nm])) = DE.d (.tuple ((l ++ [mn.nm]).map .str))
        rw [List.map_append]; rfl
      · rw [List.length_map, List.length_map]; have := hsl i; omega
      · rw [ht, subL_snoc, List.map_append, List.map_map]; rfl
    · rintro env m ⟨⟨e2, e3, e4, e5, rfl⟩, rfl⟩
      refine ⟨⟨e2, e3, e4, e5, ?_⟩, rfl⟩
      rw [List.length_map, ← hnl, List.take_of_length_le (Nat.le_refl _)]
  · obtain ⟨⟨e2, e3, e4, e5, rfl⟩, rfl⟩ := z
    have hs := hsl (nms fs).length
    rw [List.take_of_length_le (Nat.le_refl _)] at hs
    exact bs_ret (ev_soL (ks := subL (nms fs)) (ev_var 1 rfl rfl (.inl rfl)) rfl (subL_head _) (by omega) (units16 hr) rfl m_sorted) ⟨mu_end _, rfl⟩
abbrev s_staying : Stmt := topS 22
theorem sc_staying : FnScope ["folk", "lot", "one"] ["folk", "lot"] (defScope s_staying) := ⟨rfl, rfl, rfl, by decide +kernel, rfl, by decide +kernel, by decide +kernel⟩
def ph_staying : Phi := phP (fun t : List Man × List Str => t.1.length ≤ 1000) (fun t => [.d (folkD t.1), .d (encK t.2)]) (fun t => folkD (stay t.1 t.2))
theorem ok_staying {f : Addr} {fd : FuncData} (F : Fun K "staying" "staying" s_staying f fd) (m_tuple : mg "tuple" = none) : FnOk P w K mg base CX0 1 f fd ["folk", "lot"] (SpD K ph_staying) := by
  refine fn_p F sc_staying (fun _ => rfl) fun cdv A outer s H E hr t hp μ => ?_
  obtain ⟨fs, lot⟩ := t
  have hp : fs.length ≤ 1000 := hp
  exact bs_ret (ev_callT call_tuple_of rfl m_tuple (by decide +kernel) (ea_cons (ev_lcf (own := [("one", 2)]) fs manD manD (fun m => !decide (m.nm ∈ lot)) rfl sc_staying.nd (blkOk_by (N := ["folk", "lot", "one"]) (sc := defScope s_staying) (by decide +kernel)) (it_tup (ds := fs.map manD) (ev_var 0 rfl rfl (.inl rfl))) hp fun m hm => ⟨_, _, by decide, fun s H C cl fp => (tg_name 2 sc_staying.nd rfl (.inl rfl)), fun s H C cl fp => ets_one (et_cmp (ev_ixT (ev_var 2 rfl rfl (.inl rfl)) ev_int rfl) (ev_var 1 rfl rfl (by first | exact .inr (.inl rfl) | exact .inr (.inr rfl))) c_ninT rfl), fun _ s H C cl fp => (ev_var 2 rfl rfl (.inl rfl))⟩) ea_nil) (rc_tupleL rfl)) ⟨mu_end _, rfl⟩
abbrev s_gg : Stmt := topS 23
theorem sc_gg : FnScope ["raft", "folk", "lot", "found", "greatest", "at", "name", "before", "gap"] ["raft", "folk", "lot", "found"] (defScope s_gg) := ⟨rfl, rfl, rfl, by decide +kernel, rfl, by decide +kernel, by decide +kernel⟩
structure GgA where
  r : Raft
  fs : List Man
  lot : List Str
  F : List Str → Option PQ
  kvs : List (List Str × Dt)
structure GgO (t : GgA) : Prop where
  rf : t.r.ok
  mn : Men t.fs
  nd : (nms t.fs).Nodup
  nm : NmOk t.fs
  sub : ∀ n ∈ t.lot, n ∈ nms t.fs
  lnd : t.lot.Nodup
  l7 : t.lot.length ≤ 7
  at_ : ∀ n ∈ t.lot, atD t.kvs (lessN t.lot n) = some (poD (t.F (lessN t.lot n)))
  ok : ∀ n ∈ t.lot, ∀ g, t.F (lessN t.lot n) = some g → PqOk 1800 g
def ph_gg (P : Program) (w : World) : Phi := fun xs μ μ' r => ∃ (t : GgA) (x : DE), GgO t ∧ DicR μ x P w t.kvs ∧ xs = [.d (raftD t.r), .d (folkD t.fs), .d (encK t.lot), x] ∧ μ' = μ ∧ r = .d (poD (ggP t.r t.fs t.lot t.F))
theorem ok_gg {f : Addr} {fd : FuncData} (F : Fun K "greatest_gap" "greatest_gap" s_gg f fd) (m_enumerate : mg "enumerate" = none) (d_wo : Df P w K mg base 1 "without" ph_without) (d_stay : Df P w K mg base 1 "staying" ph_staying) (d_fgl : Df P w K mg base 3 "front_gap_less" ph_fgl) (d_iam2 : Df P w K mg base 1 "is_at_most" ph_iam2) : FnOk P w K mg base CX0 4 f fd ["raft", "folk", "lot", "found"] (SpD K (ph_gg P w)) := by
  refine fn_d F sc_gg (fun xs μ μ' r h => ?_) (fun cdv A outer s H E hr xs μ μ' r h => ?_) (fun xs μ μ' r h => ?_)
  · obtain ⟨_, _, _, _, rfl, _⟩ := h; rfl
  · obtain ⟨t, dx, h, hj, rfl, rfl, rfl⟩ := h
    obtain ⟨r, fs, lot, F', kvs⟩ := t
    have hj : DicR μ' dx P w kvs := hj
    have hl7 : lot.length ≤ 7 := h.l7
    have hm7 : fs.length ≤ 7 := h.mn.1
    have hll : (lot.map PyData.str).length = lot.length := List.length_map ..
    have hlnd : lot.Nodup := h.lnd
    refine bs_set 4 ev_non ?_ sc_gg.nd rfl (.inl rfl)
    refine bs_cons (M := fun env m => (∃ e5 e6 e7 e8, env = [some (.d (raftD r)), some (.d (folkD fs)), some (.d (encK lot)), some dx, some (.d (poD (ggP r fs lot F'))), e5, e6, e7, e8]) ∧ m = μ') ?_ fun env m z => ?_
    · refine b1_for (fun i env m => (∃ e5 e6 e7 e8, env = [some (.d (raftD r)), some (.d (folkD fs)), some (.d (encK lot)), some dx, some (.d (poD (((lot.take i).map (wayP r fs lot F')).foldl minP none))), e5, e6, e7, e8]) ∧ m = μ') (it_enum (k := false) (ds := lot.map .str) (ea_cons (ev_var 2 rfl rfl (.inl rfl)) ea_nil) rfl m_enumerate) ⟨⟨_, _, _, _, rfl⟩, rfl⟩ PassesOwn.never rfl ?_ ?_
      · rintro i d env m hd ⟨⟨e5, e6, e7, e8, rfl⟩, rfl⟩
        obtain ⟨x, hx, rfl⟩ := enumD_get hd
        obtain ⟨n, hi, rfl⟩ := map_get hx
        have hil := lt_get hi
        have hmem := List.mem_of_getElem? hi
        have hat : atD kvs (lessN lot n) = some (poD (F' (lessN lot n))) := h.at_ n hmem
        have hok : ∀ g, F' (lessN lot n) = some g → PqOk 1800 g := h.ok n hmem
        have hdl : dropAt lot i = lessN lot n := drop_less hlnd hi
        have htk : (lot.take (i + 1)).map (wayP r fs lot F') = (lot.take i).map (wayP r fs lot F') ++ [wayP r fs lot F' n] := take_get _ hi
        have hacc : ∀ g, ((lot.take i).map (wayP r fs lot F')).foldl minP none = some g → PqOk 1816 g := fun g e => foldP_ok (fun y hy g' e' => by
          obtain ⟨n', hn', rfl⟩ := List.mem_map.mp hy
          exact way_ok h.rf h.mn (fun g2 e2 => h.ok n' (List.mem_of_mem_take hn') g2 e2) e') (fun g' e' => by cases e') e
        have hend : ∀ v, v = minP (((lot.take i).map (wayP r fs lot F')).foldl minP none) (wayP r fs lot F' n) → v = ((lot.take (i + 1)).map (wayP r fs lot F')).foldl minP none := fun v e => by
          rw [htk, List.foldl_append]; exact e
        refine ⟨_, _, (tg_tup rfl (tgl_cons (tg_name 5 sc_gg.nd rfl (.inl rfl)) (tgl_cons (tg_name 6 sc_gg.nd rfl (.inl rfl)) tgl_nil))), ?_⟩
        refine bs_set 7 (ev_is (y := .d (encK (lessN lot n))) (ev_call d_wo hr (by decide) rfl (ea_cons (ev_var 2 rfl rfl (.inl rfl)) (ea_cons (ev_var 5 rfl rfl (.inl rfl)) ea_nil)) (phP.mk (lot.map PyData.str, i) ⟨show i < (lot.map PyData.str).length by omega, show (lot.map PyData.str).length ≤ 400 by omega⟩)) (by show DE.d (.tuple (dropAt (lot.map .str) i)) = _; rw [encK_drop, hdl])) ?_ sc_gg.nd rfl (.inl rfl)
        generalize hA : ((lot.take i).map (wayP r fs lot F')).foldl minP none = acc at *
        have hu := units1 hr
        cases hF : F' (lessN lot n) with
        | none =>
          rw [hF] at hat
          have hway : wayP r fs lot F' n = none := by unfold wayP; rw [hF]; rfl
          refine bs_one (b1_if (k := false) (et_cmp (ev_dgetR hu (ev_var 3 rfl rfl (.inl rfl)) (ev_var 7 rfl rfl (.inl rfl)) hj hat) ev_non c_notN rfl) (fun z => by cases z) (fun _ => bs_nil ?_))
          show (∃ _ _ _ _, _) ∧ _
          rw [← hend acc (by rw [hway]; cases acc <;> rfl)]
          exact ⟨⟨_, _, _, _, rfl⟩, rfl⟩
        | some g =>
          rw [hF] at hat
          have hg := hok g hF
          obtain ⟨m0, hm0, hm1⟩ := List.mem_map.mp (h.sub n hmem)
          have hms : m0 ∈ stay fs (lessN lot n) := stay_mem.mpr ⟨hm0, by rw [hm1]; exact fun z => (lessN_mem.mp z).2 rfl⟩
          have hmo : manOf (stay fs (lessN lot n)) n = some m0 := by rw [← hm1]; exact manOf_at (nd_stay h.nd _) (by rw [hm1]; exact hms)
          have hway : wayP r fs lot F' n = fglP r (stay fs (lessN lot n)) g m0 := by unfold wayP; rw [hF, Option.bind_some, hmo]; rfl
          have hfo : FglO ⟨r, stay fs (lessN lot n), g, m0⟩ := ⟨h.rf, h.mn.stay _, nd_stay h.nd _, fun x hx => h.nm x ((stay_sub _ _).mem hx), hms, hg.mono (by omega)⟩
          refine bs_one (b1_if (k := true) (et_cmp (ev_dgetR hu (ev_var 3 rfl rfl (.inl rfl)) (ev_var 7 rfl rfl (.inl rfl)) hj hat) ev_non c_notN rfl) (fun _ => ?_) (fun z => by cases z))
          refine bs_set 8 (x := .d (poD (fglP r (stay fs (lessN lot n)) g m0))) (ev_call d_fgl hr (by decide) rfl (ea_cons (ev_var 0 rfl rfl (.inl rfl)) (ea_cons (ev_call d_stay hr (by decide) rfl (ea_cons (ev_var 1 rfl rfl (.inl rfl)) (ea_cons (ev_var 7 rfl rfl (.inl rfl)) ea_nil)) (phP.mk (fs, lessN lot n) (show fs.length ≤ 1000 by omega))) (ea_cons (ev_dgetR hu (ev_var 3 rfl rfl (.inl rfl)) (ev_var 7 rfl rfl (.inl rfl)) hj hat) (ea_cons (ev_is (y := .d (.str m0.nm)) (ev_var 6 rfl rfl (.inl rfl)) (by rw [hm1])) ea_nil)))) (phP.mk _ hfo)) ?_ sc_gg.nd rfl (.inl rfl)
          cases hf : fglP r (stay fs (lessN lot n)) g m0 with
          | none =>
            rw [hf] at hway
            refine bs_one (b1_if (k := false) (et_w (ew_and (k := false) (k' := false) (et_cmp (ev_var 8 rfl rfl (.inl rfl)) ev_non c_notN rfl) (fun z => by cases z) (fun _ => rfl))) (fun z => by cases z) (fun _ => bs_nil ?_))
            show (∃ _ _ _ _, _) ∧ _
            rw [← hend acc (by rw [hway]; cases acc <;> rfl)]
            exact ⟨⟨_, _, _, _, rfl⟩, rfl⟩
          | some g1 =>
            have hg1 : PqOk 1816 g1 := fglP_ok h.rf (h.mn.stay _) hms hg hf
            rw [hf] at hway
            cases acc with
            | none =>
              refine bs_one (b1_if (k := true) (et_w (ew_and (k := true) (k' := true) (et_cmp (ev_var 8 rfl rfl (.inl rfl)) ev_non c_notN rfl) (fun _ => ew_and1 (et_w (ew_or (k := true) (k' := true) (et_cmp (ev_var 4 rfl rfl (.inl rfl)) ev_non c_isN rfl) (fun z => by cases z) (fun _ => rfl)))) (fun z => by cases z))) (fun _ => ?_) (fun z => by cases z))
              refine bs_one (b1_set 4 (ev_var 8 rfl rfl (.inl rfl)) ?_ sc_gg.nd rfl (.inl rfl))
              show (∃ _ _ _ _, _) ∧ _
              rw [← hend (some g1) (by rw [hway]; rfl)]
              exact ⟨⟨_, _, _, _, rfl⟩, rfl⟩
            | some a =>
              refine bs_one (b1_if (k := true && (false || leP g1 a)) (et_w (ew_and (k := true) (et_cmp (ev_var 8 rfl rfl (.inl rfl)) ev_non c_notN rfl) (fun _ => ew_and1 (et_w (ew_or (k := false) (et_cmp (ev_var 4 rfl rfl (.inl rfl)) ev_non c_isN rfl) (fun _ => ew_or1 (et_val (ev_call d_iam2 hr (by decide) rfl (ea_cons (ev_var 8 rfl rfl (.inl rfl)) (ea_cons (ev_var 4 rfl rfl (.inl rfl)) ea_nil)) (phP.mk (g1, a) ⟨hg1.mono (by omega), (hacc a rfl).mono (by omega)⟩)) (by intro _; rfl))) (fun z => by cases z)))) (fun z => by cases z))) (fun e => ?_) (fun e => bs_nil ?_))
              · have e : leP g1 a = true := by simpa using e
                refine bs_one (b1_set 4 (ev_var 8 rfl rfl (.inl rfl)) ?_ sc_gg.nd rfl (.inl rfl))
                show (∃ _ _ _ _, _) ∧ _
                rw [← hend (some g1) (by rw [hway]; show _ = if leP g1 a then some g1 else some a; rw [e]; rfl)]
                exact ⟨⟨_, _, _, _, rfl⟩, rfl⟩
              · have e : leP g1 a = false := by simpa using e
                show (∃ _ _ _ _, _) ∧ _
                rw [← hend (some a) (by rw [hway]; show _ = if leP g1 a then some g1 else some a; rw [e]; rfl)]
                exact ⟨⟨_, _, _, _, rfl⟩, rfl⟩
      · rintro env m ⟨⟨e5, e6, e7, e8, rfl⟩, rfl⟩
        refine ⟨⟨e5, e6, e7, e8, ?_⟩, rfl⟩
        rw [enumD_len, hll, List.take_of_length_le (Nat.le_refl _)]; rfl
    · obtain ⟨⟨e5, e6, e7, e8, rfl⟩, rfl⟩ := z
      exact bs_ret (ev_var 4 rfl rfl (.inl rfl)) ⟨mu_end _, rfl, fun c z => nomatch z⟩
  · obtain ⟨_, _, _, _, _, rfl, _⟩ := h; exact Nat.le_refl _
abbrev s_ggs : Stmt := topS 24
theorem sc_ggs : FnScope ["raft", "folk", "standing", "found", "by_size", "lot"] ["raft", "folk", "standing"] (defScope s_ggs) := ⟨rfl, rfl, rfl, by decide +kernel, rfl, by decide +kernel, by decide +kernel⟩
def ph_ggs (P : Program) (w : World) : Phi := fun xs μ μ' r => ∃ t : TabA, TabO t ∧ xs = t.args ∧ μ' = μ ++ [some (.dic P w t.kvs)] ∧ r = .c μ.length
theorem ok_ggs {f : Addr} {fd : FuncData} (F : Fun K "greatest_gaps" "greatest_gaps" s_ggs f fd) (m_sorted : mg "sorted" = none) (m_len : mg "len" = none) (d_fg : Df P w K mg base 5 "front_gap" ph_front_gap) (d_lotsof : Df P w K mg base 1 "lots_of" ph_lotsof) (d_gg : Df P w K mg base 4 "greatest_gap" (ph_gg P w)) : FnOk P w K mg base CX0 6 f fd ["raft", "folk", "standing"] (SpD K (ph_ggs P w)) := by
  refine fn_d F sc_ggs (fun xs μ μ' r h => ?_) (fun cdv A outer s H E hr xs μ μ' r h => ?_) (fun xs μ μ' r h => ?_)
  · obtain ⟨_, _, rfl, _⟩ := h; rfl
  · obtain ⟨t, h, rfl, rfl, rfl⟩ := h
    have h7 : t.fs.length ≤ 7 := h.gd.mn.1
    have hln : (sizeL t.fs).length ≤ 128 := by rw [sizeL_len]; exact pow7 h7
    have hl0 : 1 ≤ (sizeL t.fs).length := by rw [sizeL_len]; exact Nat.two_pow_pos _
    obtain ⟨tl, htl⟩ := sizeL_head t.fs
    have hnd := sizeL_nd h.nd
    have hu := units1 hr
    show Bs _ _ (startE _ [_, _, _]) _ _
    refine bs_set 3 (ev_done (k := []) hu ev_tup0 (ev_call d_fg hr (by decide) rfl (ea_cons (ev_var 0 rfl rfl (.inl rfl)) (ea_cons (ev_var 1 rfl rfl (.inl rfl)) (ea_cons (ev_var 2 rfl rfl (.inl rfl)) ea_nil))) (phP.mk (t.r, t.fs, t.g, t.ps) ⟨h.gd, h.gs⟩))) ?_ sc_ggs.nd rfl (.inl rfl)
    refine bs_set 4 (x := .d (.list ((sizeL t.fs).map encK))) (ev_soN (ks := lotsL t.fs) (ev_call d_lotsof hr (by decide) rfl (ea_cons (ev_var 1 rfl rfl (.inl rfl)) ea_nil) (phP.mk t.fs h7)) rfl (by rw [lotsL_len]; have := pow7 h7; omega) (fun k hk => by have := (lotsL_mem.mp hk).length_le; rw [nms, List.length_map] at this; omega) (units16 hr) rfl m_sorted rfl m_len) ?_ sc_ggs.nd rfl (.inl rfl)
    refine bs_cons (M := fun env m => (∃ e5, env = [some (.d (raftD t.r)), some (.d (folkD t.fs)), some (.d (stD t.g t.ps)), some (.c μ.length), some (.d (.list ((sizeL t.fs).map encK))), e5]) ∧ m = μ ++ [some (.dic P w t.kvs)]) ?_ fun env m z => ?_
    · refine b1_for (fun i env m => (∃ e5, env = [some (.d (raftD t.r)), some (.d (folkD t.fs)), some (.d (stD t.g t.ps)), some (.c μ.length), some (.d (.list ((sizeL t.fs).map encK))), e5]) ∧ m = μ ++ [some (.dic P w (tabK t.r t.fs (gp t.x) ((sizeL t.fs).take (i + 1))))]) (it_list (ev_slL (ds := (sizeL t.fs).map encK) (ev_var 4 rfl rfl (.inl rfl)) rfl (eo_some ev_int) eo_none)) ⟨⟨_, rfl⟩, ?_⟩ PassesOwn.never rfl ?_ ?_
      · rw [htl]; rfl
      · rintro i d env m hd ⟨⟨e5, rfl⟩, rfl⟩
        rw [show ((1 : Int)) = ((1 : Nat) : Int) from rfl, cut_hi _ (by rw [List.length_map]; omega), List.getElem?_drop] at hd
        obtain ⟨lot, hi, rfl⟩ := map_get hd
        rw [Nat.add_comm] at hi
        have hil := lt_get hi
        have hsub : lot.Sublist (nms t.fs) := sizeL_mem.mp (List.mem_of_getElem? hi)
        have hlnd : lot.Nodup := hsub.nodup h.nd
        have hll : lot.length ≤ 7 := by have := hsub.length_le; rw [nms, List.length_map] at this; omega
        have hne : lot ≠ [] := fun e => by
          have h0 : (sizeL t.fs)[0]? = some [] := by rw [htl]; rfl
          rw [e] at hi
          have := (List.getElem?_inj (by omega) hnd).mp (h0.trans hi.symm)
          omega
        obtain ⟨k, hk⟩ : ∃ k, lot.length = k + 1 := ⟨lot.length - 1, by have := List.length_pos_iff.mpr hne; omega⟩
        have hnew : lot ∉ (sizeL t.fs).take (i + 1) := fun z => by
          obtain ⟨j, hj⟩ := List.getElem?_of_mem z
          have hjl : j < i + 1 := by have := lt_get hj; rw [List.length_take] at this; omega
          rw [List.getElem?_take_of_lt hjl] at hj
          have := (List.getElem?_inj (by omega) hnd).mp (hj.trans hi.symm)
          omega
        have hgo : GgO ⟨t.r, t.fs, lot, FP t.r t.fs (gp t.x) k, tabK t.r t.fs (gp t.x) ((sizeL t.fs).take (i + 1))⟩ := ⟨h.gd.rf, h.gd.mn, h.nd, h.nm, fun n hn => hsub.subset hn, hlnd, hll, fun n hn => by
            have hm := sizeL_before h.nd hi hn
            have hlen := lessN_len hlnd hn
            have := atD_map (f := fun l => poD (FP t.r t.fs (gp t.x) l.length l)) hm
            have e : (lessN lot n).length = k := by omega
            show atD (tabK _ _ _ _) _ = _
            unfold tabK
            rw [this, e], fun n hn g e => (FP_ok h.gd.rf h.gd.mn (gpq h.fz) e).mono (by omega)⟩
        refine ⟨_, _, (tg_name 5 sc_ggs.nd rfl (.inl rfl)), ?_⟩
        refine bs_one (b1_dput (j := μ.length) (kvs := tabK t.r t.fs (gp t.x) ((sizeL t.fs).take (i + 1))) (k := lot) hu (ev_call d_gg hr (by decide) rfl (ea_cons (ev_var 0 rfl rfl (.inl rfl)) (ea_cons (ev_var 1 rfl rfl (.inl rfl)) (ea_cons (ev_var 5 rfl rfl (.inl rfl)) (ea_cons (ev_var 3 rfl rfl (.inl rfl)) ea_nil)))) ⟨_, .c μ.length, hgo, .inl ⟨_, rfl, get_last _ _⟩, rfl, rfl, rfl⟩) (ev_var 3 rfl rfl (.inl rfl)) (ev_var 5 rfl rfl (.inl rfl)) (get_last _ _) (by rw [tabK_len, List.length_take]; omega) ?_)
        rw [set_last, tab_put hnew]
        refine ⟨⟨_, rfl⟩, ?_⟩
        have e1 : FP t.r t.fs (gp t.x) lot.length lot = ggP t.r t.fs lot (FP t.r t.fs (gp t.x) k) := by rw [hk]; rfl
        have e2 : (sizeL t.fs).take (i + 1 + 1) = (sizeL t.fs).take (i + 1) ++ [lot] := by rw [List.take_add_one, hi]; rfl
        rw [e2]
        unfold tabK
        rw [List.map_append]
        show _ = μ ++ [some (Cl.dic P w (_ ++ [(lot, poD (FP t.r t.fs (gp t.x) lot.length lot))]))]
        rw [e1]
        rfl
      · rintro env m ⟨⟨e5, rfl⟩, rfl⟩
        refine ⟨⟨e5, rfl⟩, ?_⟩
        rw [show ((1 : Int)) = ((1 : Nat) : Int) from rfl, cut_hi _ (by rw [List.length_map]; omega), List.length_drop, List.length_map, show (sizeL t.fs).length - 1 + 1 = (sizeL t.fs).length by omega, List.take_of_length_le (Nat.le_refl _)]
        rfl
    · obtain ⟨⟨e5, rfl⟩, rfl⟩ := z
      exact bs_ret (ev_var 3 rfl rfl (.inl rfl)) ⟨mu_end _, rfl, fun c z => by cases z; rw [List.length_append]; exact Nat.lt_succ_self _⟩
  · obtain ⟨_, _, _, rfl, _⟩ := h; rw [List.length_append]; exact Nat.le_add_right _ _
abbrev s_lgoes : Stmt := topS 49
theorem sc_lgoes : FnScope ["raft", "folk", "front", "name", "one", "own", "whole", "back", "near", "reach", "at", "rest"] ["raft", "folk", "front", "name"] (defScope s_lgoes) := ⟨rfl, rfl, rfl, by decide +kernel, rfl, by decide +kernel, by decide +kernel⟩
structure LgA where
  r : Raft
  fs : List Man
  x : Rat
  m : Man
structure LgO (t : LgA) : Prop where
  rf : t.r.ok
  mn : Men t.fs
  nd : (nms t.fs).Nodup
  nm : NmOk t.fs
  mem : t.m ∈ t.fs
  sz : Sz 1900 t.x
theorem filt_one : ∀ {fs : List Man} {m : Man}, (fs.map (·.nm)).Nodup → m ∈ fs → (fs.filter fun y => decide (y.nm = m.nm)) = [m]
  | y :: fs, m, hn, hm => by
    obtain ⟨h1, h2⟩ := nd_tail hn
    rcases List.mem_cons.mp hm with rfl | hm
    · rw [List.filter_cons, if_pos (decide_eq_true rfl)]
      congr 1
      rw [List.filter_eq_nil_iff]
      intro z hz
      simpa using h1 z hz
    · rw [List.filter_cons, if_neg]
      · exact filt_one h2 hm
      · have := h1 m hm
        simpa using fun e => this e.symm
  | [], _, _, hm => by cases hm
theorem mk_frac (a : Int) {b : Int} (hb : 0 < b) : mkRat a b.toNat = (a : Rat) / (b : Rat) := by
  have := mk_shared (a : Rat) hb
  rw [show ((a : Rat)).num = a from rfl, show (((a : Rat)).den : Int) = 1 from rfl, Int.one_mul] at this
  exact this
def ph_lgoes : Phi := phP LgO (fun t => [.d (raftD t.r), .d (folkD t.fs), .d (rD t.x), .d (.str t.m.nm)]) (fun t => optD (goesM t.r t.fs t.x t.m))
theorem ok_lgoes {f : Addr} {fd : FuncData} (F : Fun K "_law_goes" "_law_goes" s_lgoes f fd) (m_sum : mg "sum" = none) (d_lheavy : Df P w K mg base 1 "_law_heavy" ph_lheavy) (d_lminus : Df P w K mg base 2 "_law_minus" ph_lminus) (d_llowest : Df P w K mg base 1 "_law_lowest" ph_llowest) (d_lless : Df P w K mg base 1 "_law_less" ph_lless) (d_ltimes : Df P w K mg base 2 "_law_times" ph_ltimes) : FnOk P w K mg base CX0 3 f fd ["raft", "folk", "front", "name"] (SpD K ph_lgoes) := by
  refine fn_p F sc_lgoes (fun _ => rfl) fun cdv A outer s H E hr t h μ => ?_
  obtain ⟨r, fs, x, m⟩ := t
  have hx : Sz 1900 x := h.sz
  have hrf : r.ok := h.rf
  have hmn : Men fs := h.mn
  have hmem : m ∈ fs := h.mem
  have hnm : NmOk fs := h.nm
  have hm7 : fs.length ≤ 7 := hmn.1
  have hok := hmn.2 m hmem
  have ht := tot_bd hrf hmn
  have hge := wt_ge hmn.2 hmem
  obtain ⟨hr1, hr2, hr3, hr4⟩ := hrf
  obtain ⟨hv1, hv2, hc1, hc2⟩ := hok
  have hW1 : (1 : Int) ≤ tot r fs - m.hv := by unfold tot; omega
  have hT : (tot r fs).natAbs < 2 ^ 12 := by omega
  have hwl := (wt_bd (fs := fs) hmn.2).1
  have hO : (wt fs - m.hv).natAbs < 2 ^ 12 := by unfold tot at ht; omega
  have hL : r.lg.natAbs < 2 ^ 10 := by omega
  have hC : m.rc.natAbs < 2 ^ 7 := by omega
  have hV : m.hv.natAbs < 2 ^ 8 := by omega
  have hW : (tot r fs - m.hv).natAbs < 2 ^ 12 := by omega
  have hcz : Sz 8 (m.rc : Rat) := Sz.int (n := 8) (by omega) (by omega)
  refine bs_set 5 (x := .d (manD m)) (ev_ixL (x := .d (.list [manD m])) (ds := [manD m]) (ev_is (ev_lcf (own := [("one", 4)]) fs manD manD (fun y => decide (y.nm = m.nm)) rfl sc_lgoes.nd (blkOk_by (N := ["raft", "folk", "front", "name", "one", "own", "whole", "back", "near", "reach", "at", "rest"]) (sc := defScope s_lgoes) (by decide +kernel)) (it_tup (ds := fs.map manD) (ev_var 1 rfl rfl (.inl rfl))) (by omega) fun y hy => ⟨_, _, by decide, fun s H C cl fp => (tg_name 4 sc_lgoes.nd rfl (.inl rfl)), fun s H C cl fp => ets_one (et_is (et_cmp (ev_ixT (ev_var 4 rfl rfl (.inl rfl)) ev_int rfl) (ev_var 3 rfl rfl (by first | exact .inr (.inl rfl) | exact .inr (.inr rfl))) (c_eq hr.units rfl rfl ((lay_str (hnm y hy)).sh (by omega)) ((lay_str (hnm m hmem)).sh (by omega))) rfl) (eqv_str _ _)), fun _ s H C cl fp => (ev_var 4 rfl rfl (.inl rfl))⟩) (by rw [filt_one h.nd hmem]; rfl)) ev_int rfl rfl) ?_ sc_lgoes.nd rfl (.inl rfl)
  refine bs_set 6 (ev_call d_lheavy hr (by decide) rfl (ea_cons (ev_var 0 rfl rfl (.inl rfl)) (ea_cons (ev_var 1 rfl rfl (.inl rfl)) ea_nil)) (phP.mk (r, fs) (show fs.length ≤ 1000 by omega))) ?_ sc_lgoes.nd rfl (.inl rfl)
  refine bs_set 7 (x := .d (.int (wt fs - m.hv))) (ev_sub (ev_callB (cr_sum rfl) rfl m_sum (by decide +kernel) (ea_cons (ev_lcm (own := [("one", 4)]) fs manD (fun m => .int m.hv) rfl sc_lgoes.nd (blkOk_by (N := ["raft", "folk", "front", "name", "one", "own", "whole", "back", "near", "reach", "at", "rest"]) (sc := defScope s_lgoes) (by decide +kernel)) (it_tup (ds := fs.map manD) (ev_var 1 rfl rfl (.inl rfl))) (by omega) fun y hy => ⟨_, _, by decide, fun s H C cl fp => (tg_name 4 sc_lgoes.nd rfl (.inl rfl)), fun s H C cl fp => (ev_ixT (ev_var 4 rfl rfl (.inl rfl)) ev_int rfl)⟩) ea_nil) (rc_sum (ns := fs.map (·.hv)) (by show PyData.list _ = _; rw [List.map_map]; rfl))) (ev_ixT (ev_var 5 rfl rfl (.inl rfl)) ev_int rfl)) ?_ sc_lgoes.nd rfl (.inl rfl)
  have hq : Sz 22 ((r.lg * (wt fs - m.hv) : Int) / (tot r fs : Rat) : Rat) := by
    rw [← mk_frac _ (show 0 < tot r fs by omega)]
    exact mk_sz (by omega) (pw_mulI (n := 10) (m := 12) hL hO) (Nat.lt_of_lt_of_le (show (tot r fs).toNat < 2 ^ 12 by omega) (Nat.pow_le_pow_right (by omega) (by omega)))
  refine bs_set 8 (ev_call d_lminus hr (by decide) rfl (ea_cons (ev_var 2 rfl rfl (.inl rfl)) (ea_cons (ev_is (y := .d (rD ((r.lg * (wt fs - m.hv) : Int) / (tot r fs : Rat) : Rat))) (ev_call d_llowest hr (by decide) rfl (ea_cons (ev_mul (ev_ixT (ev_var 0 rfl rfl (.inl rfl)) ev_int rfl) (ev_var 7 rfl rfl (.inl rfl)) (small_mul (pw_up hL (by omega)) (pw_up hO (by omega)))) (ea_cons (ev_var 6 rfl rfl (.inl rfl)) ea_nil)) (phP.mk (_, _) ⟨show 0 < tot r fs by omega, pw_up hT (by omega)⟩)) (congrArg (fun q => DE.d (rD q)) (mk_frac (r.lg * (wt fs - m.hv)) (show 0 < tot r fs by omega)))) ea_nil)) (phP.mk (x, _) ⟨hx.mono (by omega), hq.mono (by omega)⟩)) ?_ sc_lgoes.nd rfl (.inl rfl)
  refine bs_set 9 (ev_is (y := .d (rD (m.rc : Rat))) (ev_tup2 (ev_ixT (ev_var 5 rfl rfl (.inl rfl)) ev_int rfl) ev_int) rfl) ?_ sc_lgoes.nd rfl (.inl rfl)
  have hnear : Sz 1923 (x - ((r.lg * (wt fs - m.hv) : Int) / (tot r fs : Rat) : Rat)) := (hx.sub hq).mono (by omega)
  have hgo : goesM r fs x m = if (m.rc : Rat) < x - ((r.lg * (wt fs - m.hv) : Int) / (tot r fs : Rat) : Rat) then none else some ((x * (tot r fs : Rat) - (if (m.rc : Rat) < x then (m.rc : Rat) else x) * (m.hv : Rat)) / ((tot r fs - m.hv : Int) : Rat)) := by
    unfold goesM
    rw [Rat.intCast_mul r.lg]
    have hd : (0 : Rat) < ((tot r fs - m.hv : Int) : Rat) := rat_pos_of hW1
    rw [Rat.intCast_sub (tot r fs)] at hd ⊢
    generalize (tot r fs : Rat) = T at *
    split
    · rfl
    · split
      · rfl
      · congr 1
        generalize (m.hv : Rat) = v at *
        grind
  refine bs_then (b1_if (k := decide ((m.rc : Rat) < x - ((r.lg * (wt fs - m.hv) : Int) / (tot r fs : Rat) : Rat))) (et_val (ev_call d_lless hr (by decide) rfl (ea_cons (ev_var 9 rfl rfl (.inl rfl)) (ea_cons (ev_var 8 rfl rfl (.inl rfl)) ea_nil)) (phP.mk ((m.rc : Rat), _) ⟨hcz.mono (by omega), hnear.mono (by omega)⟩)) (by intro _; rfl)) (fun e => ?_) (fun e => bs_nil ?_))
  · refine bs_ret ev_non ⟨mu_end _, ?_⟩
    show _ = DE.d (optD (goesM r fs x m))
    rw [hgo, if_pos (of_decide_eq_true e)]; rfl
  refine bs_set 10 (μ1 := μ) (x := .d (rD (if (m.rc : Rat) < x then (m.rc : Rat) else x))) (ev_if (k := decide ((m.rc : Rat) < x)) (et_val (ev_call d_lless hr (by decide) rfl (ea_cons (ev_var 9 rfl rfl (.inl rfl)) (ea_cons (ev_var 2 rfl rfl (.inl rfl)) ea_nil)) (phP.mk ((m.rc : Rat), x) ⟨hcz.mono (by omega), hx.mono (by omega)⟩)) (by intro _; rfl)) (fun e => ?_) (fun e => ?_)) ?_ sc_lgoes.nd rfl (.inl rfl)
  · rw [if_pos (of_decide_eq_true e)]; exact (ev_var 9 rfl rfl (.inl rfl))
  · rw [if_neg (of_decide_eq_false e)]; exact (ev_var 2 rfl rfl (.inl rfl))
  have haz : Sz 1900 (if (m.rc : Rat) < x then (m.rc : Rat) else x) := by
    split
    · exact hcz.mono (by omega)
    · exact hx
  have hend : goesM r fs x m = some ((x * (tot r fs : Rat) - (if (m.rc : Rat) < x then (m.rc : Rat) else x) * (m.hv : Rat)) / ((tot r fs - m.hv : Int) : Rat)) := by rw [hgo, if_neg (of_decide_eq_false e)]
  show Bs _ _ _ _ (dnP μ (optD (goesM r fs x m)))
  rw [hend]
  generalize (if (m.rc : Rat) < x then (m.rc : Rat) else x) = a at *
  have hz1 : Sz 1912 (x * (tot r fs : Rat)) := (hx.mul (Sz.int (n := 12) hT (by omega))).mono (by omega)
  have hz2 : Sz 1912 (a * (m.hv : Rat)) := (haz.mul (Sz.int (n := 8) hV (by omega))).mono (by omega)
  have hz3 : Sz 3830 (x * (tot r fs : Rat) - a * (m.hv : Rat)) := (hz1.sub hz2).mono (by omega)
  refine bs_set 11 (ev_call d_lminus hr (by decide) rfl (ea_cons (ev_call d_ltimes hr (by decide) rfl (ea_cons (ev_var 2 rfl rfl (.inl rfl)) (ea_cons (ev_var 6 rfl rfl (.inl rfl)) ea_nil)) (phP.mk (x, tot r fs) ⟨hx.mono (by omega), pw_up hT (by omega)⟩)) (ea_cons (ev_call d_ltimes hr (by decide) rfl (ea_cons (ev_var 10 rfl rfl (.inl rfl)) (ea_cons (ev_ixT (ev_var 5 rfl rfl (.inl rfl)) ev_int rfl) ea_nil)) (phP.mk (a, m.hv) ⟨haz.mono (by omega), pw_up hV (by omega)⟩)) ea_nil)) (phP.mk (x * (tot r fs : Rat), a * (m.hv : Rat)) ⟨hz1.mono (by omega), hz2.mono (by omega)⟩)) ?_ sc_lgoes.nd rfl (.inl rfl)
  refine bs_ret (ev_call d_llowest hr (by decide) rfl (ea_cons (ev_ixT (ev_var 11 rfl rfl (.inl rfl)) ev_int rfl) (ea_cons (ev_mul (ev_ixT (ev_var 11 rfl rfl (.inl rfl)) ev_int rfl) (ev_sub (ev_var 6 rfl rfl (.inl rfl)) (ev_ixT (ev_var 5 rfl rfl (.inl rfl)) ev_int rfl)) (small_mul (pw_up hz3.dn (by omega)) (pw_up hW (by omega)))) ea_nil)) (phP.mk (_, _) ⟨Int.mul_pos (dn_pos _) (show 0 < tot r fs - m.hv by omega), pw_up (pw_mulI hz3.dn hW) (by omega)⟩)) ⟨mu_end _, ?_⟩
  exact congrArg (fun q => DE.d (rD q)) (mk_shared (x * (tot r fs : Rat) - a * (m.hv : Rat)) (show 0 < tot r fs - m.hv by omega))
abbrev s_lleft : Stmt := topS 50
theorem sc_lleft : FnScope ["folk", "lot", "one"] ["folk", "lot"] (defScope s_lleft) := ⟨rfl, rfl, rfl, by decide +kernel, rfl, by decide +kernel, by decide +kernel⟩
def ph_lleft : Phi := phP (fun t : List Man × List Str => t.1.length ≤ 1000) (fun t => [.d (folkD t.1), .d (encK t.2)]) (fun t => folkD (stay t.1 t.2))
theorem ok_lleft {f : Addr} {fd : FuncData} (F : Fun K "_law_left" "_law_left" s_lleft f fd) (m_tuple : mg "tuple" = none) : FnOk P w K mg base CX0 1 f fd ["folk", "lot"] (SpD K ph_lleft) := by
  refine fn_p F sc_lleft (fun _ => rfl) fun cdv A outer s H E hr t hp μ => ?_
  obtain ⟨fs, lot⟩ := t
  have hp : fs.length ≤ 1000 := hp
  exact bs_ret (ev_callT call_tuple_of rfl m_tuple (by decide +kernel) (ea_cons (ev_lcf (own := [("one", 2)]) fs manD manD (fun m => !decide (m.nm ∈ lot)) rfl sc_lleft.nd (blkOk_by (N := ["folk", "lot", "one"]) (sc := defScope s_lleft) (by decide +kernel)) (it_tup (ds := fs.map manD) (ev_var 0 rfl rfl (.inl rfl))) hp fun m hm => ⟨_, _, by decide, fun s H C cl fp => (tg_name 2 sc_lleft.nd rfl (.inl rfl)), fun s H C cl fp => ets_one (et_cmp (ev_ixT (ev_var 2 rfl rfl (.inl rfl)) ev_int rfl) (ev_var 1 rfl rfl (by first | exact .inr (.inl rfl) | exact .inr (.inr rfl))) c_ninT rfl), fun _ s H C cl fp => (ev_var 2 rfl rfl (.inl rfl))⟩) ea_nil) (rc_tupleL rfl)) ⟨mu_end _, rfl⟩
abbrev s_llots : Stmt := topS 51
theorem sc_llots : FnScope ["folk", "found", "one", "lot"] ["folk"] (defScope s_llots) := ⟨rfl, rfl, rfl, by decide +kernel, rfl, by decide +kernel, by decide +kernel⟩
def ph_llots : Phi := phP (fun fs : List Man => fs.length ≤ 7) (fun fs => [.d (folkD fs)]) (fun fs => .list ((lotsL fs).map encK))
theorem ok_llots {f : Addr} {fd : FuncData} (F : Fun K "_law_lots" "_law_lots" s_llots f fd) (m_sorted : mg "sorted" = none) : FnOk P w K mg base CX0 1 f fd ["folk"] (SpD K ph_llots) := by
  refine fn_p F sc_llots (fun _ => rfl) fun cdv A outer s H E hr fs hp μ => ?_
  have hp : fs.length ≤ 7 := hp
  have hnl : (nms fs).length = fs.length := List.length_map ..
  have hsl : ∀ i, (subL ((nms fs).take i)).length ≤ 128 := fun i => by
    rw [subL_len, List.length_take]
    exact pow7 (by omega)
  refine bs_set 1 (ev_lst1 ev_tup0) ?_ sc_llots.nd rfl (.inl rfl)
  refine bs_cons (M := fun env m => (∃ e2 e3, env = [some (.d (folkD fs)), some (.d (.list ((subL (nms fs)).map encK))), e2, e3]) ∧ m = μ) ?_ fun env m z => ?_
  · refine b1_for (fun i env m => (∃ e2 e3, env = [some (.d (folkD fs)), some (.d (.list ((subL ((nms fs).take i)).map encK))), e2, e3]) ∧ m = μ) (it_tup (ds := fs.map manD) (ev_var 0 rfl rfl (.inl rfl))) ⟨⟨_, _, rfl⟩, rfl⟩ PassesOwn.never rfl ?_ ?_
    · rintro i d env m hd ⟨⟨e2, e3, rfl⟩, rfl⟩
      obtain ⟨mn, hi, rfl⟩ := map_get hd
      refine ⟨_, _, (tg_name 2 sc_llots.nd rfl (.inr rfl)), ?_⟩
      have hi' : (nms fs)[i]? = some mn.nm := by unfold nms; rw [List.getElem?_map, hi]; rfl
      have ht : (nms fs).take (i + 1) = (nms fs).take i ++ [mn.nm] := by rw [List.take_add_one, hi']; rfl
      refine bs_one (b1_set 1 (x := .d (.list ((subL ((nms fs).take (i + 1))).map encK))) (ev_is (ev_catL (us := (subL ((nms fs).take i)).map encK) (ws := (subL ((nms fs).take i)).map (fun l => encK (l ++ [mn.nm]))) (ev_var 1 rfl rfl (.inl rfl)) (ev_lcm (own := [("lot", 3)]) (subL ((nms fs).take i)) encK (fun l => encK (l ++ [mn.nm])) rfl sc_llots.nd (blkOk_by (N := ["folk", "found", "one", "lot"]) (sc := defScope s_llots) (by decide +kernel)) (it_list (ev_var 1 rfl rfl (.inl rfl))) (by have := hsl i; omega) fun l hl => ⟨_, _, by decide, fun s H C cl fp => (tg_name 3 sc_llots.nd rfl (.inl rfl)), fun s H C cl fp => ?_⟩) rfl rfl ?_) ?_) ⟨⟨_, _, rfl⟩, rfl⟩ sc_llots.nd rfl (.inl rfl))
      · have hll : l.length ≤ 7 := by
          have := ((subL_mem _ _).mp hl).length_le
          rw [List.length_take] at this; omega
        refine ev_is (y := .d (encK (l ++ [mn.nm]))) (ev_addT (ev_var 3 rfl rfl (.inl rfl)) (ev_tup1 (ev_ixT (ev_var 2 rfl rfl (by first | exact .inr (.inl rfl) | exact .inr (.inr rfl))) ev_int rfl)) (ln (by rw [List.length_map]; simp; omega))) ?_
        show DE.d (.tuple (l.map .str ++ [.str mn.nm])) = DE.d (.tuple ((l ++ [mn.nm]).map .str))
        rw [List.map_append]; rfl
      · rw [List.length_map, List.length_map]; have := hsl i; omega
      · rw [ht, subL_snoc, List.map_append, List.map_map]; rfl
    · rintro env m ⟨⟨e2, e3, rfl⟩, rfl⟩
      refine ⟨⟨e2, e3, ?_⟩, rfl⟩
      rw [List.length_map, ← hnl, List.take_of_length_le (Nat.le_refl _)]
  · obtain ⟨⟨e2, e3, rfl⟩, rfl⟩ := z
    have hs := hsl (nms fs).length
    rw [List.take_of_length_le (Nat.le_refl _)] at hs
    exact bs_ret (ev_soL (ks := subL (nms fs)) (ev_var 1 rfl rfl (.inl rfl)) rfl (subL_head _) (by omega) (units16 hr) rfl m_sorted) ⟨mu_end _, rfl⟩
abbrev s_table : Stmt := topS 25
theorem sc_table : FnScope ["raft", "folk", "standing", "found", "rows", "lot", "gap"] ["raft", "folk", "standing"] (defScope s_table) := ⟨rfl, rfl, rfl, by decide +kernel, rfl, by decide +kernel, by decide +kernel⟩
def ph_table : Phi := phP TabO TabA.args (fun t => .tuple (t.rows (lotsL t.fs)))
theorem ok_table {f : Addr} {fd : FuncData} (F : Fun K "table" "table" s_table f fd) (m_tuple : mg "tuple" = none) (d_ggs : Df P w K mg base 6 "greatest_gaps" (ph_ggs P w)) (d_lotsof : Df P w K mg base 1 "lots_of" ph_lotsof) (d_lowest : Df P w K mg base 2 "lowest" ph_lowest) : FnOk P w K mg base CX0 7 f fd ["raft", "folk", "standing"] (SpD K ph_table) := by
  refine fn_p F sc_table (fun _ => rfl) fun cdv A outer s H E hr t h μ => ?_
  have h7 : t.fs.length ≤ 7 := h.gd.mn.1
  have hll : (lotsL t.fs).length ≤ 128 := by rw [lotsL_len]; exact pow7 h7
  have hu := units1 hr
  show Bs _ _ (startE _ [_, _, _]) _ _
  refine bs_set 3 (ev_call d_ggs hr (by decide) rfl (ea_cons (ev_var 0 rfl rfl (.inl rfl)) (ea_cons (ev_var 1 rfl rfl (.inl rfl)) (ea_cons (ev_var 2 rfl rfl (.inl rfl)) ea_nil))) ⟨t, h, rfl, rfl, rfl⟩) ?_ sc_table.nd rfl (.inl rfl)
  have hml : (μ ++ [some (Cl.dic P w t.kvs)]).length = μ.length + 1 := by rw [List.length_append]; rfl
  refine bs_set 4 ev_lstC0 ?_ sc_table.nd rfl (.inl rfl)
  generalize hM : μ ++ [some (Cl.dic P w t.kvs)] = M at *
  have hm : ∀ y, (M ++ [y])[μ.length]? = some (some (Cl.dic P w t.kvs)) := fun y => by
    rw [List.getElem?_append_left (by omega), ← hM]; exact get_last _ _
  refine bs_cons (M := fun env m => (∃ e5 e6, env = [some (.d (raftD t.r)), some (.d (folkD t.fs)), some (.d (stD t.g t.ps)), some (.c μ.length), some (.c M.length), e5, e6]) ∧ m = M ++ [some (Cl.lst (t.rows (lotsL t.fs)))]) ?_ fun env m z => ?_
  · refine b1_for (fun i env m => (∃ e5 e6, env = [some (.d (raftD t.r)), some (.d (folkD t.fs)), some (.d (stD t.g t.ps)), some (.c μ.length), some (.c M.length), e5, e6]) ∧ m = M ++ [some (Cl.lst (t.rows ((lotsL t.fs).take i)))]) (it_list (ds := (lotsL t.fs).map encK) (ev_call d_lotsof hr (by decide) rfl (ea_cons (ev_var 1 rfl rfl (.inl rfl)) ea_nil) (phP.mk t.fs h7))) ⟨⟨_, _, rfl⟩, rfl⟩ PassesOwn.never rfl ?_ ?_
    · rintro i d env m hd ⟨⟨e5, e6, rfl⟩, rfl⟩
      obtain ⟨l, hi, rfl⟩ := map_get hd
      have hil := lt_get hi
      have hsub := lotsL_mem.mp (List.mem_of_getElem? hi)
      have hl7 : l.length ≤ 7 := by have := hsub.length_le; rw [nms, List.length_map] at this; omega
      have hat := h.at_ hsub
      have htk : t.rows ((lotsL t.fs).take (i + 1)) = t.rows ((lotsL t.fs).take i) ++ [.tuple [encK l, optD (bestG t.r t.fs t.x l.length l)]] := take_get _ hi
      have hrl : (t.rows ((lotsL t.fs).take i)).length ≤ 128 := by unfold TabA.rows; rw [List.length_map, List.length_take]; omega
      rw [htk]
      refine ⟨_, _, (tg_name 5 sc_table.nd rfl (.inl rfl)), ?_⟩
      refine bs_set 6 (x := .d (poD (FP t.r t.fs (gp t.x) l.length l))) (ev_dget hu (ev_var 3 rfl rfl (.inl rfl)) (ev_var 5 rfl rfl (.inl rfl)) (hm _) hat) ?_ sc_table.nd rfl (.inl rfl)
      refine bs_one (b1_expr (ev_append (ds := t.rows ((lotsL t.fs).take i)) (d := .tuple [encK l, optD (bestG t.r t.fs t.x l.length l)]) (ev_var 4 rfl rfl (.inl rfl)) (ev_tup2 (ev_var 5 rfl rfl (.inl rfl)) (ev_if (k := isNon (.d (poD (FP t.r t.fs (gp t.x) l.length l)))) (et_cmp (ev_var 6 rfl rfl (.inl rfl)) ev_non c_isN rfl) (fun e => ?_) (fun e => ?_))) ⟨_, get_last _ _⟩ (get_last _ _) (lnl (by omega))) ?_)
      · cases q : FP t.r t.fs (gp t.x) l.length l with
        | none =>
          have hb := h.best l
          rw [q] at hb
          rw [← hb]; exact ev_non
        | some g => rw [q] at e; cases e
      · cases q : FP t.r t.fs (gp t.x) l.length l with
        | none => rw [q] at e; cases e
        | some g =>
          obtain ⟨ho, hb⟩ := h.low hl7 q
          rw [hb]
          exact (ev_call d_lowest hr (by decide) rfl (ea_cons (ev_ixT (ev_var 6 rfl rfl (.inl rfl)) ev_int rfl) (ea_cons (ev_ixT (ev_var 6 rfl rfl (.inl rfl)) ev_int rfl) ea_nil)) (phP.mk (g.1, g.2) ⟨ho.pos, pw_up ho.s2 (by omega)⟩))
      · show (∃ _ _, _) ∧ _
        rw [set_last]
        exact ⟨⟨_, _, rfl⟩, rfl⟩
    · rintro env m ⟨⟨e5, e6, rfl⟩, rfl⟩
      refine ⟨⟨_, _, rfl⟩, ?_⟩
      rw [List.length_map, List.take_of_length_le (Nat.le_refl _)]
  · obtain ⟨⟨e5, e6, rfl⟩, rfl⟩ := z
    exact bs_ret (ev_callT call_tuple_of rfl m_tuple (by decide +kernel) (ea_cons (ev_var 4 rfl rfl (.inl rfl)) ea_nil) (rc_tupleL ⟨_, get_last _ _, rfl⟩)) ⟨⟨[some (Cl.dic P w t.kvs), some (Cl.lst (t.rows (lotsL t.fs)))], by rw [← hM, List.append_assoc]; rfl⟩, rfl⟩
abbrev s_gbl : Stmt := topS 26
theorem sc_gbl : FnScope ["folk", "thing", "lots", "found", "lot", "row"] ["folk", "thing"] (defScope s_gbl) := ⟨rfl, rfl, rfl, by decide +kernel, rfl, by decide +kernel, by decide +kernel⟩
structure GlA where
  fs : List Man
  d : Dt
structure GlO (t : GlA) : Prop where
  mn : Men t.fs
  nd : (nms t.fs).Nodup
  nm : NmOk t.fs
  nc : Nc t.d
def ph_gbl (P : Program) (w : World) : Phi := fun xs μ μ' r => ∃ t : GlA, GlO t ∧ xs = [.d (folkD t.fs), .d t.d] ∧ ((tabB t.fs t.d = true ∧ μ' = μ ++ [some (.dic P w (kvG (gOf t.fs t.d) (lotsL t.fs)))] ∧ r = .c μ.length) ∨ (tabB t.fs t.d = false ∧ μ' = μ ∧ r = .d .none))
theorem NmOk.lot {fs : List Man} (h : NmOk fs) {l : List Str} (hl : l.Sublist (nms fs)) : ∀ s ∈ l, PyData.canLay0 (.str s) = true := fun s hs => by
  obtain ⟨m, hm, rfl⟩ := List.mem_map.mp (hl.subset hs)
  exact h m hm
theorem ok_gbl {f : Addr} {fd : FuncData} (F : Fun K "gaps_by_lots" "gaps_by_lots" s_gbl f fd) (m_len : mg "len" = none) (m_zip : mg "zip" = none) (d_lotsof : Df P w K mg base 1 "lots_of" ph_lotsof) (d_tof : Df P w K mg base 1 "is_tuple_of" ph_is_tuple_of) (d_frac : Df P w K mg base 2 "is_fraction" ph_is_fraction) : FnOk P w K mg base CX0 3 f fd ["folk", "thing"] (SpD K (ph_gbl P w)) := by
  refine fn_d F sc_gbl (fun xs μ μ' r h => ?_) (fun cdv A outer s H E hr xs μ μ' r h => ?_) (fun xs μ μ' r h => ?_)
  · obtain ⟨_, _, rfl, _⟩ := h; rfl
  · obtain ⟨⟨fs, d⟩, h, rfl, hres⟩ := h
    have h7 : fs.length ≤ 7 := h.mn.1
    have hnc : Nc d := h.nc
    have hll : (lotsL fs).length ≤ 128 := by rw [lotsL_len]; exact pow7 h7
    have hlnd : (lotsL fs).Nodup := lotsL_nd h.nd
    have hlm : ((lotsL fs).map encK).length = (lotsL fs).length := List.length_map ..
    have hu := units1 hr
    have hno : tabB fs d = false → ∀ m : MU, (∃ ν, m = μ ++ ν) → (∃ ν, m = μ' ++ ν) ∧ (DE.d .none) = r ∧ ∀ c, r = .c c → c < μ'.length := fun e m hm => by
      rcases hres with ⟨e2, _⟩ | ⟨_, rfl, rfl⟩
      · rw [show tabB fs d = true from e2] at e; cases e
      · exact ⟨hm, rfl, fun c z => nomatch z⟩
    show Bs _ _ (startE _ [.d (folkD fs), .d d]) _ _
    refine bs_set 2 (ev_call d_lotsof hr (by decide) rfl (ea_cons (ev_var 0 rfl rfl (.inl rfl)) ea_nil) (phP.mk fs h7)) ?_ sc_gbl.nd rfl (.inl rfl)
    refine bs_then (b1_if (k := !tupB d ((((lotsL fs).map encK).length : Nat) : Int)) (et_not (et_val (ev_call d_tof hr (by decide) rfl (ea_cons (ev_var 1 rfl rfl (.inl rfl)) (ea_cons (ev_callB call_len_seq rfl m_len PySem.boot_len (ea_cons (ev_var 2 rfl rfl (.inl rfl)) ea_nil) (rc_lenL rfl)) ea_nil)) (phP.mk (d, ((((lotsL fs).map encK).length : Nat) : Int)) True.intro)) (by intro _; rfl))) (fun e => ?_) (fun e => bs_nil ?_))
    · rw [hlm] at e
      have e : tupB d ((lotsL fs).length : Int) = false := by simpa using e
      refine bs_ret ev_non (hno ?_ _ (mu_end _))
      cases d with
      | tuple xs =>
        have e : decide ((xs.length : Int) = ((lotsL fs).length : Int)) = false := e
        show (decide ((xs.length : Int) = ((lotsL fs).length : Int)) && _) = false
        rw [e]; rfl
      | _ => rfl
    · rw [hlm] at e
      have e : tupB d ((lotsL fs).length : Int) = true := by simpa using e
      obtain ⟨xs, rfl, hl⟩ := tup_so e
      have hxs : xs.length = (lotsL fs).length := by omega
      have htb : tabB fs (.tuple xs) = ((lotsL fs).zip xs).all fun q => rowB q.1 q.2 := by
        show (decide ((xs.length : Int) = ((lotsL fs).length : Int)) && _) = _
        rw [decide_eq_true hl, Bool.true_and]
      have hG : ∀ {i : Nat} {l : List Str} {x : Dt}, (lotsL fs)[i]? = some l → xs[i]? = some x → gOf fs (.tuple xs) l = rowV x := fun h1 h2 => gAt_at hlnd h1 h2
      generalize gOf fs (.tuple xs) = G at *
      refine bs_set 3 ev_dnew ?_ sc_gbl.nd rfl (.inl rfl)
      refine bs_cons (M := fun env m => (∃ e4 e5, env = [some (.d (folkD fs)), some (.d (.tuple xs)), some (.d (.list ((lotsL fs).map encK))), some (.c μ.length), e4, e5]) ∧ m = μ ++ [some (.dic P w (kvG G (lotsL fs)))] ∧ tabB fs (.tuple xs) = true) ?_ fun env m z => ?_
      · refine b1_for (fun i env m => (∃ e4 e5, env = [some (.d (folkD fs)), some (.d (.tuple xs)), some (.d (.list ((lotsL fs).map encK))), some (.c μ.length), e4, e5]) ∧ m = μ ++ [some (.dic P w (kvG G ((lotsL fs).take i)))] ∧ ∀ q ∈ ((lotsL fs).zip xs).take i, rowB q.1 q.2 = true) (it_zipK (k1 := true) (k2 := false) (ds := (lotsL fs).map encK) (es := xs) (by omega) (ea_cons (ev_var 2 rfl rfl (.inl rfl)) (ea_cons (ev_var 1 rfl rfl (.inl rfl)) ea_nil)) rfl m_zip) ⟨⟨_, _, rfl⟩, rfl, by simp⟩ PassesOwn.never rfl ?_ ?_
        · rintro i dd env m hd ⟨⟨e4, e5, rfl⟩, rfl, hrows⟩
          obtain ⟨⟨d1, x⟩, hz, rfl⟩ := map_get hd
          obtain ⟨hz1, hx⟩ := List.getElem?_zip_eq_some.mp hz
          obtain ⟨l, hi, rfl⟩ := map_get hz1
          have hil := lt_get hi
          have hsub := lotsL_mem.mp (List.mem_of_getElem? hi)
          have hzi : ((lotsL fs).zip xs)[i]? = some (l, x) := List.getElem?_zip_eq_some.mpr ⟨hi, hx⟩
          have hxn : Nc x := hnc.tup.2 x (List.mem_of_getElem? hx)
          have hbad : rowB l x = false → tabB fs (.tuple xs) = false := fun e => by
            rw [htb, List.all_eq_false]
            exact ⟨(l, x), List.mem_of_getElem? hzi, by rw [e]; simp⟩
          refine ⟨_, _, tg_tup (ds := [encK l, x]) rfl (tgl_cons (tg_name 4 sc_gbl.nd rfl (.inl rfl)) (tgl_cons (tg_name 5 sc_gbl.nd rfl (.inl rfl)) tgl_nil)), ?_⟩
          cases ht : tupB x 2 with
          | false =>
            refine bs_then (b1_if (k := !tupB x 2 || true) (et_w (ew_or (k := !tupB x 2) (k' := true) (et_not (et_val (ev_call d_tof hr (by decide) rfl (ea_cons (ev_var 5 rfl rfl (.inl rfl)) (ea_cons ev_int ea_nil)) (phP.mk (x, 2) True.intro)) (by intro _; rfl))) (fun z => by rw [ht] at z; cases z) (fun _ => rfl))) (fun _ => ?_) (fun z => by rw [ht] at z; cases z))
            exact bs_ret ev_non (hno (hbad (row_no ht)) _ ⟨_, rfl⟩)
          | true =>
            obtain ⟨zs, rfl, hl2⟩ := tup_so ht
            obtain ⟨k, v, rfl⟩ := len2 hl2
            have hrb : rowB l (.tuple [k, v]) = (PyData.eqv k (encK l) && (isNonD v || fracB v)) := rfl
            have hkn : Nc k := hxn.tup.2 k (by simp)
            refine bs_then (b1_if (k := !tupB (PyData.tuple [k, v]) 2 || !PyData.eqv k (encK l)) (et_w (ew_or (k := !tupB (PyData.tuple [k, v]) 2) (et_not (et_val (ev_call d_tof hr (by decide) rfl (ea_cons (ev_var 5 rfl rfl (.inl rfl)) (ea_cons ev_int ea_nil)) (phP.mk (PyData.tuple [k, v], 2) True.intro)) (by intro _; rfl))) (fun _ => ew_or1 (et_cmp (ev_ixT (ev_var 5 rfl rfl (.inl rfl)) ev_int rfl) (ev_var 4 rfl rfl (.inl rfl)) (c_ne hr.units rfl rfl (hkn.lay.sh (by omega)) ((lay_lotK (h.nm.lot hsub)).sh (by omega))) rfl)) (fun _ => rfl))) (fun e => ?_) (fun e => bs_nil ?_))
            · have e : PyData.eqv k (encK l) = false := by rw [ht] at e; simpa using e
              refine bs_ret ev_non (hno (hbad ?_) _ ⟨_, rfl⟩)
              rw [hrb, e]; rfl
            · have e : PyData.eqv k (encK l) = true := by rw [ht] at e; simpa using e
              refine bs_then (b1_if (k := !isNon (.d v) && !fracB v) (et_w (ew_and (et_cmp (ev_ixT (ev_var 5 rfl rfl (.inl rfl)) ev_int rfl) ev_non c_notN rfl) (fun _ => ew_and1 (et_not (et_val (ev_call d_frac hr (by decide) rfl (ea_cons (ev_ixT (ev_var 5 rfl rfl (.inl rfl)) ev_int rfl) ea_nil) (phP.mk v True.intro)) (by intro _; rfl)))) (fun _ => rfl))) (fun e2 => ?_) (fun e2 => bs_nil ?_))
              · refine bs_ret ev_non (hno (hbad ?_) _ ⟨_, rfl⟩)
                rw [hrb, e, Bool.true_and]
                have : isNon (.d v) = isNonD v := by cases v <;> rfl
                rw [this, Bool.and_eq_true, Bool.not_eq_true', Bool.not_eq_true'] at e2
                rw [e2.1, e2.2]; rfl
              · have : isNon (.d v) = isNonD v := by cases v <;> rfl
                have e2 : (isNonD v || fracB v) = true := by
                  rw [this] at e2
                  cases q1 : isNonD v <;> cases q2 : fracB v <;> rw [q1, q2] at e2 <;> first | rfl | cases e2
                obtain ⟨hv, _⟩ := val_is e2
                have hGl : optD (G l) = v := by rw [hG hi hx]; exact hv.symm
                have hnew : l ∉ (lotsL fs).take i := fun z => by
                  obtain ⟨j, hj⟩ := List.getElem?_of_mem z
                  have hjl : j < i := by have := lt_get hj; rw [List.length_take] at this; omega
                  rw [List.getElem?_take_of_lt hjl] at hj
                  have := (List.getElem?_inj (by omega) hlnd).mp (hj.trans hi.symm)
                  omega
                refine bs_one (b1_dput (j := μ.length) (kvs := kvG G ((lotsL fs).take i)) (k := l) (d := v) hu (ev_ixT (ev_var 5 rfl rfl (.inl rfl)) ev_int rfl) (ev_var 3 rfl rfl (.inl rfl)) (ev_var 4 rfl rfl (.inl rfl)) (get_last _ _) (by rw [kvG_len, List.length_take]; omega) ?_)
                rw [set_last, kvG_put hnew]
                refine ⟨⟨_, _, rfl⟩, ?_, fun q hq => ?_⟩
                · have e3 : (lotsL fs).take (i + 1) = (lotsL fs).take i ++ [l] := by rw [List.take_add_one, hi]; rfl
                  rw [e3]
                  unfold kvG
                  rw [List.map_append]
                  show _ = μ ++ [some (Cl.dic P w (_ ++ [(l, optD (G l))]))]
                  rw [hGl]
                  rfl
                · rw [List.take_add_one, hzi] at hq
                  rcases List.mem_append.mp hq with z | z
                  · exact hrows q z
                  · have z : q = (l, .tuple [k, v]) := by simpa using z
                    rw [z]
                    show rowB l (.tuple [k, v]) = true
                    rw [hrb, e, e2]; rfl
        · rintro env m ⟨⟨e4, e5, rfl⟩, rfl, hrows⟩
          have hzl : (((lotsL fs).map encK).zip xs).length = (lotsL fs).length := by rw [List.length_zip, hlm, hxs, Nat.min_self]
          rw [List.length_map, hzl] at hrows ⊢
          rw [List.take_of_length_le (Nat.le_refl _)]
          refine ⟨⟨_, _, rfl⟩, rfl, ?_⟩
          rw [htb, List.all_eq_true]
          intro q hq
          exact hrows q (by rw [List.take_of_length_le (by rw [List.length_zip]; omega)]; exact hq)
      · obtain ⟨⟨e4, e5, rfl⟩, rfl, htrue⟩ := z
        rcases hres with ⟨_, rfl, rfl⟩ | ⟨e2, _⟩
        · exact bs_ret (ev_var 3 rfl rfl (.inl rfl)) ⟨mu_end _, rfl, fun c z => by cases z; rw [List.length_append]; exact Nat.lt_succ_self _⟩
        · rw [show tabB fs (.tuple xs) = false from e2] at htrue; cases htrue
  · obtain ⟨_, _, _, ⟨_, rfl, _⟩ | ⟨_, rfl, _⟩⟩ := h
    · rw [List.length_append]; exact Nat.le_add_right _ _
    · exact Nat.le_refl _
abbrev s_lbest : Stmt := topS 52
theorem sc_lbest : FnScope ["raft", "folk", "front", "found", "left", "lot", "gap", "some", "one", "more"] ["raft", "folk", "front"] (defScope s_lbest) := ⟨rfl, rfl, rfl, by decide +kernel, rfl, by decide +kernel, by decide +kernel⟩
structure LbsA where
  r : Raft
  fs : List Man
  x : Rat
structure LbsO (t : LbsA) : Prop where
  o : WIo t.r t.fs
  nm : NmOk t.fs
  l4 : t.fs.length ≤ 4
  sz : Sz 1000 t.x
def ph_lbest (P : Program) (w : World) : Phi := fun xs μ μ' r => ∃ t : LbsA, LbsO t ∧ xs = [.d (raftD t.r), .d (folkD t.fs), .d (rD t.x)] ∧ μ' = μ ++ [some (.dic P w (kvB t.r t.fs t.x))] ∧ r = .c μ.length
theorem Tn_4 {n : Nat} (h : n ≤ 4) : Tn n ≤ 65 := by
  have : n = 0 ∨ n = 1 ∨ n = 2 ∨ n = 3 ∨ n = 4 := by omega
  rcases this with rfl | rfl | rfl | rfl | rfl <;> decide
theorem lay_we {fs : List Man} (hn : NmOk fs) {q : WE} (h : q.1.Sublist (nms fs)) : Lay 2 (weD q) := lay_t2 (n := 1) (lay_lotK (hn.lot h)) (lay_rD _)
def bMs (n k : Nat) : LE → MU → Nat := fun _ m => match m[k]? with
  | some (some (.lst ds)) => msz n ds
  | _ => 0
theorem ok_lbest {f : Addr} {fd : FuncData} (F : Fun K "_law_best" "_law_best" s_lbest f fd) (m_tuple : mg "tuple" = none) (m_sorted : mg "sorted" = none) (d_lless : Df P w K mg base 1 "_law_less" ph_lless) (d_lleft : Df P w K mg base 1 "_law_left" ph_lleft) (d_lgoes : Df P w K mg base 3 "_law_goes" ph_lgoes) : FnOk P w K mg base CX0 4 f fd ["raft", "folk", "front"] (SpD K (ph_lbest P w)) := by
  refine fn_d F sc_lbest (fun xs μ μ' r h => ?_) (fun cdv A outer s H E hr xs μ μ' r h => ?_) (fun xs μ μ' r h => ?_)
  · obtain ⟨_, _, rfl, _⟩ := h; rfl
  · obtain ⟨⟨r, fs, x⟩, h, rfl, rfl, rfl⟩ := h
    have o : WIo r fs := h.o
    have hnm : NmOk fs := h.nm
    have h4 : fs.length ≤ 4 := h.l4
    have hx : Sz 1000 x := h.sz
    have h7 := o.mn.1
    have hu := units1 hr
    have hT := Tn_4 h4
    have gD : ∀ (c d : Cl) (ν : MU), (μ ++ (some c :: some d :: ν))[μ.length]? = some (some c) := fun c d ν => by
      rw [List.getElem?_append_right (Nat.le_refl _), Nat.sub_self]; rfl
    have gL : ∀ (c d : Cl) (ν : MU), (μ ++ (some c :: some d :: ν))[μ.length + 1]? = some (some d) := fun c d ν => by
      rw [List.getElem?_append_right (by omega), show μ.length + 1 - μ.length = 1 by omega]; rfl
    have sD : ∀ (c d e : Cl) (ν : MU), (μ ++ (some c :: some d :: ν)).set μ.length (some e) = μ ++ (some e :: some d :: ν) := fun c d e ν => by
      rw [List.set_append_right _ _ (Nat.le_refl _), Nat.sub_self]; rfl
    have sL : ∀ (c d e : Cl) (ν : MU), (μ ++ (some c :: some d :: ν)).set (μ.length + 1) (some e) = μ ++ (some c :: some e :: ν) := fun c d e ν => by
      rw [List.set_append_right _ _ (by omega), show μ.length + 1 - μ.length = 1 by omega]; rfl
    show Bs _ _ (startE _ [.d (raftD r), .d (folkD fs), .d (rD x)]) _ _
    refine bs_set 3 ev_dnew ?_ sc_lbest.nd rfl (.inl rfl)
    refine bs_set 4 (x := .c (μ.length + 1)) (ev_is (ev_lstC1 (ev_tup2 ev_tup0 (ev_var 2 rfl rfl (.inl rfl)))) (by rw [List.length_append]; rfl)) ?_ sc_lbest.nd rfl (.inl rfl)
    rw [List.append_assoc]
    refine bs_cons (M := fun env m => (∃ e4 e5 e6 e7 e8 e9, env = [some (.d (raftD r)), some (.d (folkD fs)), some (.d (rD x)), some (.c μ.length), e4, e5, e6, e7, e8, e9]) ∧ ∃ d, m = μ ++ (some (.dic P w (kvB r fs x)) :: some d :: [])) ?_ fun env m z => ?_
    · refine b1_while (fun env m => ∃ j, (∃ e5 e6 e7 e8 e9, env = [some (.d (raftD r)), some (.d (folkD fs)), some (.d (rD x)), some (.c μ.length), some (.c (μ.length + 1)), e5, e6, e7, e8, e9]) ∧ m = μ ++ (some (.dic P w (bIt r fs j (bS0 x)).kvs) :: some (.lst ((bIt r fs j (bS0 x)).st.map weD)) :: [])) (bMs fs.length (μ.length + 1)) ⟨0, ⟨_, _, _, _, _, rfl⟩, rfl⟩ PassesOwn.never ?_
      rintro env m ⟨j, ⟨e5, e6, e7, e8, e9, rfl⟩, rfl⟩
      have hBI := (BI.it (x := x) o j).1
      have hnx : bIt r fs (j + 1) (bS0 x) = bStep r fs (bIt r fs j (bS0 x)) := rfl
      have hend := fun e => bIt_end (x := x) o (j := j) e
      have hkeep : ∀ S : BS, bStep r fs (bIt r fs j (bS0 x)) = S → ∃ j, S = bIt r fs j (bS0 x) := fun S e => ⟨j + 1, by rw [hnx, e]⟩
      generalize bIt r fs j (bS0 x) = S at *
      obtain ⟨F, hF, hW, hlen⟩ := id hBI
      have hsl := msz_len fs.length S.st
      have hlayst : SeqAt.shaped (.list (S.st.map weD)) = true := (lay_lst (n := 2) fun d hd => by
        obtain ⟨q, hq, rfl⟩ := List.mem_map.mp hd
        exact lay_we hnm (hW.real q.1 q.2 (.inr hq)).1).sh (by omega)
      refine ⟨!S.st.isEmpty, et_cmp (x := .c (μ.length + 1)) (y := .d (.list [])) (ev_var 4 rfl rfl (.inl rfl)) ev_lst0 (CmpD.is (c_ne (d := .list (S.st.map weD)) (f := .list []) hr.units ⟨_, gL _ _ _, rfl⟩ rfl hlayst ((lay_lst (n := 0) (ds := []) (by simp)).sh (by omega))) (by rw [eqv_nil]; cases S.st <;> rfl)) rfl, fun e => ?_, fun e => ?_⟩
      · have hne : S.st ≠ [] := fun z => by rw [z] at e; cases e
        obtain ⟨st, q, hst⟩ := snoc_of hne
        obtain ⟨lot, g⟩ := q
        have hRl := hW.real lot g (.inr (by rw [hst]; simp))
        have hls := hRl.1
        have hll := hls.length_le
        rw [nms, List.length_map] at hll
        have hgz : Sz 1112 g := hRl.sz o hx
        have hgo := hBI.go o hst
        have hbs := bStep_snoc r fs hst
        have hmst : S.st.map weD = st.map weD ++ [.tuple [encK lot, rD g]] := by rw [hst, List.map_append]; rfl
        have hms0 : bMs fs.length (μ.length + 1) [] (μ ++ (some (Cl.dic P w S.kvs) :: some (Cl.lst (S.st.map weD)) :: [])) = msz fs.length (S.st.map weD) := by
          unfold bMs; rw [gL]
        -- what is wanted behind a turn
        have hwant : ∀ (env : LE) (S' : BS), bGo r fs S.kvs st (lot, g) = S' → (∃ e5 e6 e7 e8 e9, env = [some (.d (raftD r)), some (.d (folkD fs)), some (.d (rD x)), some (.c μ.length), some (.c (μ.length + 1)), e5, e6, e7, e8, e9]) → ∃ m', m' = μ ++ (some (Cl.dic P w S'.kvs) :: some (Cl.lst (S'.st.map weD)) :: []) ∧ ((∃ j, (∃ e5 e6 e7 e8 e9, env = [some (.d (raftD r)), some (.d (folkD fs)), some (.d (rD x)), some (.c μ.length), some (.c (μ.length + 1)), e5, e6, e7, e8, e9]) ∧ m' = μ ++ (some (.dic P w (bIt r fs j (bS0 x)).kvs) :: some (.lst ((bIt r fs j (bS0 x)).st.map weD)) :: [])) ∧ bMs fs.length (μ.length + 1) env m' < msz fs.length (S.st.map weD)) := fun env S' e he => by
          obtain ⟨j', hj'⟩ := hkeep S' (by rw [hbs, e])
          refine ⟨_, rfl, ⟨j', he, by rw [← hj']⟩, ?_⟩
          unfold bMs
          rw [gL]
          rw [← e]
          exact hgo.2
        show Bs _ _ _ _ { nx := fun e' m' => _ ∧ bMs fs.length (μ.length + 1) e' m' < bMs fs.length (μ.length + 1) [] _, ct := _, bk := _, rt := _ }
        rw [hms0, hmst]
        refine bs_then (b1_asg (x := .d (.tuple [encK lot, rD g])) (ev_pop (k := μ.length + 1) (ds := st.map weD) (ev_var 4 rfl rfl (.inl rfl)) (gL _ _ _)) (tg_tup (ds := [encK lot, rD g]) rfl (tgl_cons (tg_name 5 sc_lbest.nd rfl (.inl rfl)) (tgl_cons (tg_name 6 sc_lbest.nd rfl (.inl rfl)) tgl_nil))) ?_)
        rw [sL]
        -- is it new, or better?
        have hstl : st.length ≤ 65 := by
          have : S.st.length = st.length + 1 := by rw [hst, List.length_append]; rfl
          omega
        have hkl : S.kvs.length ≤ 65 := by omega
        have hlt : lot.length ≤ 7 := by omega
        refine bs_one (b1_if (k := updB S.kvs (lot, g)) (μ1 := μ ++ (some (Cl.dic P w S.kvs) :: some (Cl.lst (st.map weD)) :: [])) ?_ (fun eu => ?_) (fun eu => ?_))
        · unfold updB
          cases ea : F lot with
          | none =>
            have hat : atD S.kvs lot = none := by rw [hF, ea]; rfl
            simp only [hat]
            exact et_w (ew_or (k := true) (k' := true) (et_is (et_cmp (ev_var 5 rfl rfl (.inl rfl)) (ev_var 3 rfl rfl (.inl rfl)) (c_dnin (k := lot) hu (gD _ _ _)) rfl) (by rw [hat]; rfl)) (fun z => by cases z) (fun _ => rfl))
          | some g0 =>
            have hat : atD S.kvs lot = some (rD g0) := by rw [hF, ea]; rfl
            have hg0 : Sz 1112 g0 := (hW.real lot g0 (.inl ea)).sz o hx
            simp only [hat, ratOf_rD]
            exact et_is (et_w (ew_or (k := false) (et_is (et_cmp (ev_var 5 rfl rfl (.inl rfl)) (ev_var 3 rfl rfl (.inl rfl)) (c_dnin (k := lot) hu (gD _ _ _)) rfl) (by rw [hat]; rfl)) (fun _ => ew_or1 (et_val (ev_call d_lless hr (by decide) rfl (ea_cons (ev_var 6 rfl rfl (.inl rfl)) (ea_cons (ev_dget (k := lot) hu (ev_var 3 rfl rfl (.inl rfl)) (ev_var 5 rfl rfl (.inl rfl)) (gD _ _ _) hat) ea_nil)) (phP.mk (g, g0) ⟨hgz.mono (by omega), hg0.mono (by omega)⟩)) (by intro _; rfl))) (fun z => by cases z))) (Bool.false_or _)
        · have hgoE : bGo r fs S.kvs st (lot, g) = ⟨putD S.kvs lot (rD g), st ++ pushL r fs lot g (stay fs lot)⟩ := by unfold bGo; rw [if_pos eu]
          refine bs_then (b1_dput (j := μ.length) (kvs := S.kvs) (k := lot) (d := rD g) hu (ev_var 6 rfl rfl (.inl rfl)) (ev_var 3 rfl rfl (.inl rfl)) (ev_var 5 rfl rfl (.inl rfl)) (gD _ _ _) (by omega) ?_)
          rw [sD]
          refine bs_set 7 (ev_call d_lleft hr (by decide) rfl (ea_cons (ev_var 1 rfl rfl (.inl rfl)) (ea_cons (ev_var 5 rfl rfl (.inl rfl)) ea_nil)) (phP.mk (fs, lot) (show fs.length ≤ 1000 by omega))) ?_ sc_lbest.nd rfl (.inl rfl)
          have hstay7 : (stay fs lot).length ≤ 7 := (o.mn.stay lot).1
          refine bs_one (b1_for (fun i env m => (∃ e8 e9, env = [some (.d (raftD r)), some (.d (folkD fs)), some (.d (rD x)), some (.c μ.length), some (.c (μ.length + 1)), some (.d (encK lot)), some (.d (rD g)), some (.d (folkD (stay fs lot))), e8, e9]) ∧ m = μ ++ (some (Cl.dic P w (putD S.kvs lot (rD g))) :: some (Cl.lst ((st ++ pushL r fs lot g ((stay fs lot).take i)).map weD)) :: [])) (it_tup (ds := (stay fs lot).map manD) (ev_var 7 rfl rfl (.inl rfl))) ⟨⟨_, _, rfl⟩, by rw [List.take_zero, show pushL r fs lot g [] = [] from rfl, List.append_nil]; rfl⟩ PassesOwn.never rfl ?_ ?_)
          · rintro i d env m hd ⟨⟨e8, e9, rfl⟩, rfl⟩
            obtain ⟨mn, hi, rfl⟩ := map_get hd
            have hmem := List.mem_of_getElem? hi
            have hpt : pushL r fs lot g ((stay fs lot).take (i + 1)) = pushL r fs lot g ((stay fs lot).take i) ++ pushL r fs lot g [mn] := by
              unfold pushL
              rw [List.take_add_one, hi, List.filterMap_append]; rfl
            have hpl : (pushL r fs lot g ((stay fs lot).take i)).length ≤ 7 := by
              have := List.length_filterMap_le (fun m => (goesM r (stay fs lot) g m).map fun v => (nxt lot m.nm, v)) ((stay fs lot).take i)
              rw [List.length_take] at this
              unfold pushL; omega
            rw [hpt]
            generalize pushL r fs lot g ((stay fs lot).take i) = pu at *
            have hlg : LgO ⟨r, stay fs lot, g, mn⟩ := ⟨o.rf, o.mn.stay _, nd_stay o.nd _, fun y hy => hnm y ((stay_sub _ _).mem hy), hmem, hgz.mono (by omega)⟩
            refine ⟨_, _, (tg_name 8 sc_lbest.nd rfl (.inl rfl)), ?_⟩
            refine bs_set 9 (ev_call d_lgoes hr (by decide) rfl (ea_cons (ev_var 0 rfl rfl (.inl rfl)) (ea_cons (ev_var 7 rfl rfl (.inl rfl)) (ea_cons (ev_var 6 rfl rfl (.inl rfl)) (ea_cons (ev_ixT (ev_var 8 rfl rfl (.inl rfl)) ev_int rfl) ea_nil)))) (phP.mk (⟨r, stay fs lot, g, mn⟩ : LgA) hlg)) ?_ sc_lbest.nd rfl (.inl rfl)
            show Bs _ _ [_, _, _, _, _, _, _, _, _, some (.d (optD (goesM r (stay fs lot) g mn)))] _ _
            cases hv : goesM r (stay fs lot) g mn with
            | none =>
              have hp0 : pushL r fs lot g [mn] = [] := by unfold pushL; rw [List.filterMap_cons, hv]; rfl
              rw [hp0, List.append_nil]
              exact bs_one (b1_if (k := false) (et_cmp (ev_var 9 rfl rfl (.inl rfl)) ev_non c_notN rfl) (fun z => by cases z) (fun _ => bs_nil ⟨⟨_, _, rfl⟩, rfl⟩))
            | some v =>
              have hp1 : pushL r fs lot g [mn] = [(nxt lot mn.nm, v)] := by unfold pushL; rw [List.filterMap_cons, hv]; rfl
              rw [hp1]
              have happ : DE.d (.tuple (lot.map .str ++ [.str mn.nm])) = .d (.tuple ((lot ++ [mn.nm]).map .str)) := by rw [List.map_append]; rfl
              refine bs_one (b1_if (k := true) (et_cmp (ev_var 9 rfl rfl (.inl rfl)) ev_non c_notN rfl) (fun _ => ?_) (fun z => by cases z))
              refine bs_one (b1_expr (ev_append (ds := (st ++ pu).map weD) (d := weD (nxt lot mn.nm, v)) (ev_var 4 rfl rfl (.inl rfl)) (ev_tup2 (ev_callT call_tuple_of rfl m_tuple (by decide +kernel) (ea_cons (ev_soT (ss := lot ++ [mn.nm]) (ev_is (ev_addT (ev_var 5 rfl rfl (.inl rfl)) (ev_tup1 (ev_ixT (ev_var 8 rfl rfl (.inl rfl)) ev_int rfl)) (ln (by rw [List.length_map]; simp; omega))) happ) (by simp; omega) rfl m_sorted) ea_nil) (rc_tupleL rfl)) (ev_var 9 rfl rfl (.inl rfl))) ⟨_, gL _ _ _⟩ (gL _ _ _) (lnl (by rw [List.length_map, List.length_append]; omega))) ?_)
              rw [sL]
              refine ⟨⟨_, _, rfl⟩, ?_⟩
              rw [← List.append_assoc, List.map_append (l₁ := st ++ pu)]; rfl
          · rintro env m ⟨⟨e8, e9, rfl⟩, rfl⟩
            rw [List.length_map, List.take_of_length_le (Nat.le_refl _)]
            obtain ⟨m', rfl, hw⟩ := hwant _ _ hgoE ⟨_, _, _, _, _, rfl⟩
            rw [hmst] at hw
            exact hw
        · have hgoE : bGo r fs S.kvs st (lot, g) = ⟨S.kvs, st⟩ := by unfold bGo; rw [if_neg (by rw [eu]; decide)]
          refine bs_nil ?_
          obtain ⟨m', rfl, hw⟩ := hwant _ _ hgoE ⟨_, _, _, _, _, rfl⟩
          rw [hmst] at hw
          exact hw
      · have hemp : S.st = [] := by cases z : S.st with
          | nil => rfl
          | cons a b => rw [z] at e; cases e
        exact ⟨⟨_, _, _, _, _, _, rfl⟩, Cl.lst (S.st.map weD), by rw [hend hemp]⟩
    · obtain ⟨⟨e4, e5, e6, e7, e8, e9, rfl⟩, d, rfl⟩ := z
      exact bs_ret (ev_var 3 rfl rfl (.inl rfl)) ⟨⟨[some d], by rw [List.append_assoc]; rfl⟩, rfl, fun c z => by cases z; rw [List.length_append]; exact Nat.lt_succ_self _⟩
  · obtain ⟨_, _, _, rfl, _⟩ := h; rw [List.length_append]; exact Nat.le_add_right _ _
abbrev s_lisgap : Stmt := topS 53
theorem sc_lisgap : FnScope ["thing"] ["thing"] (defScope s_lisgap) := ⟨rfl, rfl, rfl, by decide +kernel, rfl, by decide +kernel, by decide +kernel⟩
def ph_lisgap : Phi := phP (fun d : Dt => Nc d) (fun d => [.d d]) (fun d => .bool (isNonD d || fracB d))
theorem ok_lisgap {f : Addr} {fd : FuncData} (F : Fun K "_law_is_gap" "_law_is_gap" s_lisgap f fd) (m_isinstance : mg "isinstance" = none) (m_tuple : mg "tuple" = none) (m_len : mg "len" = none) (d_lwhole : Df P w K mg base 1 "_law_whole" ph_lwhole) (d_llowest : Df P w K mg base 1 "_law_lowest" ph_llowest) : FnOk P w K mg base CX0 2 f fd ["thing"] (SpD K ph_lisgap) := by
  refine fn_p F sc_lisgap (fun _ => rfl) fun cdv A outer s H E hr d hp μ => ?_
  have hp : Nc d := hp
  have hnn : isNon (.d d) = isNonD d := by cases d <;> rfl
  refine bs_then (b1_if (k := isNon (.d d)) (et_cmp (ev_var 0 rfl rfl (.inl rfl)) ev_non c_isN rfl) (fun e => ?_) (fun e => bs_nil ?_))
  · rw [hnn] at e
    refine bs_ret ev_bl ⟨mu_end _, ?_⟩
    rw [e]; rfl
  rw [hnn] at e
  rw [e, Bool.false_or]
  refine bs_then (b1_if (k := !isTupD d || !tupB d 2) (et_w (ew_or (k := !isTupD d) (et_not (et_val (ev_isi (ev_var 0 rfl rfl (.inl rfl)) rfl (kit_tup d) rfl m_isinstance rfl m_tuple (by decide +kernel)) (by intro _; rfl))) (fun e => ?_) (fun _ => rfl))) (fun e => ?_) (fun e => ?_))
  · obtain ⟨xs, rfl⟩ : ∃ xs, d = .tuple xs := by cases d <;> first | exact ⟨_, rfl⟩ | cases e
    show EvW _ _ _ _ _ (!decide ((xs.length : Int) = 2))
    rw [← eqv_int]
    exact ew_or1 (et_cmp (ev_callB call_len_seq rfl m_len PySem.boot_len (ea_cons (ev_var 0 rfl rfl (.inl rfl)) ea_nil) rc_lenT) ev_int (c_ne hr.units rfl rfl (shaped_int _) (shaped_int _)) rfl)
  · refine bs_ret ev_bl ⟨mu_end _, ?_⟩
    have : tupB d 2 = false := by
      cases d with
      | tuple xs => exact (Bool.not_eq_true' _).mp e
      | _ => rfl
    rw [frac_no this]
  · rw [Bool.or_eq_false_iff] at e
    obtain ⟨xs, rfl, hl⟩ := tup_so (d := d) (n := 2) (by simpa using e.2)
    obtain ⟨a, b, rfl⟩ := len2 hl
    refine bs_nil (bs_then (b1_if (k := !wholeB a || !wholeB b) (et_w (ew_or (et_not (et_val (ev_call d_lwhole hr (by decide) rfl (ea_cons (ev_ixT (ds := [a, b]) (ev_var 0 rfl rfl (.inl rfl)) ev_int rfl) ea_nil) (phP.mk a True.intro)) (by intro _; rfl))) (fun _ => ew_or1 (et_not (et_val (ev_call d_lwhole hr (by decide) rfl (ea_cons (ev_ixT (ds := [a, b]) (ev_var 0 rfl rfl (.inl rfl)) ev_int rfl) ea_nil) (phP.mk b True.intro)) (by intro _; rfl)))) (fun _ => rfl))) (fun e => ?_) (fun e => ?_)))
    · refine bs_ret ev_bl ⟨mu_end _, ?_⟩
      show _ = DE.d (.bool (fracP a b))
      unfold fracP
      cases h1 : wholeB a <;> cases h2 : wholeB b <;> rw [h1, h2] at e <;> first | (cases e; done) | simp
    · rw [Bool.or_eq_false_iff] at e
      obtain ⟨i, rfl⟩ := whole_int (d := a) (by simpa using e.1)
      obtain ⟨j, rfl⟩ := whole_int (d := b) (by simpa using e.2)
      have hj := (hp.tup.2 (.int j) (by simp)).int
      have hf : fracB (.tuple [.int i, .int j]) = (decide (0 ≤ i) && (decide (0 < j) && decide (Nat.gcd i.toNat j.toNat = 1))) := by
        show fracP (.int i) (.int j) = _
        unfold fracP
        show (!(false || (false || (decide (i < 0) || decide (j < 1)))) && decide (Nat.gcd i.toNat j.toNat = 1)) = _
        rw [Bool.false_or, Bool.false_or, Bool.not_or, ← decide_not, ← decide_not, Bool.and_assoc]
        congr 2
        · exact propext (by omega)
        · congr 1
          exact propext (by omega)
      rw [hf]
      refine bs_nil (bs_ret (x := .d (.bool (decide (0 ≤ i) && (decide (0 < j) && decide (Nat.gcd i.toNat j.toNat = 1))))) (ev_and (k := decide (0 ≤ i)) (ev_cmp (ev_ixT (ds := [.int i, .int j]) (ev_var 0 rfl rfl (.inl rfl)) ev_int rfl) ev_int c_ge rfl) (fun e1 => ?_) (fun e1 => ⟨rfl, by rw [e1]; rfl⟩)) ⟨mu_end _, rfl⟩)
      rw [e1, Bool.true_and]
      refine ev_and (k := decide (0 < j)) (ev_cmp (ev_ixT (ds := [.int i, .int j]) (ev_var 0 rfl rfl (.inl rfl)) ev_int rfl) ev_int c_gt rfl) (fun e2 => ?_) (fun e2 => ⟨rfl, by rw [e2]; rfl⟩)
      rw [e2, Bool.true_and]
      have h0 : 0 ≤ i := of_decide_eq_true e1
      have h1 : 0 < j := of_decide_eq_true e2
      rw [← eqv_mk h0 h1]
      exact ev_one (ev_cmp (ev_call d_llowest hr (by decide) rfl (ea_cons (ev_ixT (ds := [.int i, .int j]) (ev_var 0 rfl rfl (.inl rfl)) ev_int rfl) (ea_cons (ev_ixT (ds := [.int i, .int j]) (ev_var 0 rfl rfl (.inl rfl)) ev_int rfl) ea_nil)) (phP.mk (i, j) ⟨h1, pw_up hj (by omega)⟩)) (ev_var 0 rfl rfl (.inl rfl)) (c_eq hr.units rfl rfl (shaped_rD _) (Lay.sh (n := 1) (lay_t2 (lay_int _) (lay_int _)) (by omega))) rfl)
abbrev s_lshown : Stmt := topS 54
theorem sc_lshown : FnScope ["raft", "folk", "front", "thing", "every", "held", "at", "pair", "lot", "left", "one", "most", "there"] ["raft", "folk", "front", "thing"] (defScope s_lshown) := ⟨rfl, rfl, rfl, by decide +kernel, rfl, by decide +kernel, by decide +kernel⟩
structure LshA where
  r : Raft
  fs : List Man
  x : Rat
  d : Dt
structure LshO (t : LshA) : Prop where
  o : WIo t.r t.fs
  nm : NmOk t.fs
  sz : Sz 1000 t.x
  nc : Nc t.d
def ph_lshown : Phi := phP LshO (fun t => [.d (raftD t.r), .d (folkD t.fs), .d (rD t.x), .d t.d]) (fun t => shD t.r t.fs t.x t.d)
theorem ok_lshown {f : Addr} {fd : FuncData} (F : Fun K "_law_shown" "_law_shown" s_lshown f fd) (m_isinstance : mg "isinstance" = none) (m_tuple : mg "tuple" = none) (m_len : mg "len" = none) (m_enumerate : mg "enumerate" = none) (m_sorted : mg "sorted" = none) (d_llots : Df P w K mg base 1 "_law_lots" ph_llots) (d_lisgap : Df P w K mg base 2 "_law_is_gap" ph_lisgap) (d_lless : Df P w K mg base 1 "_law_less" ph_lless) (d_lleft : Df P w K mg base 1 "_law_left" ph_lleft) (d_lgoes : Df P w K mg base 3 "_law_goes" ph_lgoes) : FnOk P w K mg base CX0 4 f fd ["raft", "folk", "front", "thing"] (SpD K ph_lshown) := by
  refine fn_p F sc_lshown (fun _ => rfl) fun cdv A outer s H E hr t h μ => ?_
  obtain ⟨r, fs, x, d⟩ := t
  have o : WIo r fs := h.o
  have hnm : NmOk fs := h.nm
  have hx : Sz 1000 x := h.sz
  have hnc : Nc d := h.nc
  have h7 := o.mn.1
  have hll : (lotsL fs).length ≤ 128 := by rw [lotsL_len]; exact pow7 h7
  have hlnd : (lotsL fs).Nodup := lotsL_nd o.nd
  have hlm : ((lotsL fs).map encK).length = (lotsL fs).length := List.length_map ..
  have hu := units1 hr
  show Bs _ _ (startE _ [.d (raftD r), .d (folkD fs), .d (rD x), .d d]) _ (dnP μ (shD r fs x d))
  have hno : tabB fs d = false → ∀ m : MU, (∃ ν, m = μ ++ ν) → (∃ ν, m = μ ++ ν) ∧ DE.d .none = DE.d (shD r fs x d) := fun e m hm => ⟨hm, by unfold shD; rw [e]; rfl⟩
  refine bs_set 4 (ev_call d_llots hr (by decide) rfl (ea_cons (ev_var 1 rfl rfl (.inl rfl)) ea_nil) (phP.mk fs h7)) ?_ sc_lshown.nd rfl (.inl rfl)
  refine bs_then (b1_if (k := !isTupD d || !tupB d ((lotsL fs).length : Int)) (et_w (ew_or (k := !isTupD d) (et_not (et_val (ev_isi (ev_var 3 rfl rfl (.inl rfl)) rfl (kit_tup d) rfl m_isinstance rfl m_tuple (by decide +kernel)) (by intro _; rfl))) (fun e => ?_) (fun _ => rfl))) (fun e => ?_) (fun e => bs_nil ?_))
  · obtain ⟨xs, rfl⟩ : ∃ xs, d = .tuple xs := by cases d <;> first | exact ⟨_, rfl⟩ | cases e
    show EvW _ _ _ _ _ (!decide ((xs.length : Int) = ((lotsL fs).length : Int)))
    rw [← eqv_int, ← hlm]
    exact ew_or1 (et_cmp (ev_callB call_len_seq rfl m_len PySem.boot_len (ea_cons (ev_var 3 rfl rfl (.inl rfl)) ea_nil) rc_lenT) (ev_callB call_len_seq rfl m_len PySem.boot_len (ea_cons (ev_var 4 rfl rfl (.inl rfl)) ea_nil) (rc_lenL rfl)) (c_ne hr.units rfl rfl (shaped_int _) (shaped_int _)) rfl)
  · refine bs_ret ev_non (hno ?_ _ (mu_end _))
    cases d with
    | tuple xs =>
      have e : tupB (.tuple xs) ((lotsL fs).length : Int) = false := by simpa [isTupD] using e
      have e : decide ((xs.length : Int) = ((lotsL fs).length : Int)) = false := e
      show (decide ((xs.length : Int) = ((lotsL fs).length : Int)) && _) = false
      rw [e]; rfl
    | _ => rfl
  rw [Bool.or_eq_false_iff] at e
  have e : tupB d ((lotsL fs).length : Int) = true := by simpa using e.2
  obtain ⟨xs, rfl, hl⟩ := tup_so e
  have hxs : xs.length = (lotsL fs).length := by omega
  have htb : tabB fs (.tuple xs) = ((lotsL fs).zip xs).all fun q => rowB q.1 q.2 := by
    show (decide ((xs.length : Int) = ((lotsL fs).length : Int)) && _) = _
    rw [decide_eq_true hl, Bool.true_and]
  have hGa : ∀ {i : Nat} {l : List Str} {x : Dt}, (lotsL fs)[i]? = some l → xs[i]? = some x → gOf fs (.tuple xs) l = rowV x := fun h1 h2 => gAt_at hlnd h1 h2
  have hG := fun e => tab_g (fs := fs) hnc e
  have hSh : tabB fs (.tuple xs) = true → shD r fs x (.tuple xs) = if shownB r fs x (gOf fs (.tuple xs)) then .list ((shL fs (gOf fs (.tuple xs))).map encK) else .none := fun e => by unfold shD; rw [e]; rfl
  generalize shD r fs x (.tuple xs) = SH at *
  generalize gOf fs (.tuple xs) = G at *
  refine bs_set 5 ev_dnew ?_ sc_lshown.nd rfl (.inr rfl)
  refine bs_cons (M := fun env m => (∃ e6 e7 e8 e9 e10 e11 e12, env = [some (.d (raftD r)), some (.d (folkD fs)), some (.d (rD x)), some (.d (.tuple xs)), some (.d (.list ((lotsL fs).map encK))), some (.c μ.length), e6, e7, e8, e9, e10, e11, e12]) ∧ m = μ ++ [some (.dic P w (kvG G (lotsL fs)))] ∧ tabB fs (.tuple xs) = true) ?_ fun env m z => ?_
  · refine b1_for (fun i env m => (∃ e6 e7 e8 e9 e10 e11 e12, env = [some (.d (raftD r)), some (.d (folkD fs)), some (.d (rD x)), some (.d (.tuple xs)), some (.d (.list ((lotsL fs).map encK))), some (.c μ.length), e6, e7, e8, e9, e10, e11, e12]) ∧ m = μ ++ [some (.dic P w (kvG G ((lotsL fs).take i)))] ∧ ∀ q ∈ ((lotsL fs).zip xs).take i, rowB q.1 q.2 = true) (it_enum (k := false) (ds := xs) (ea_cons (ev_var 3 rfl rfl (.inl rfl)) ea_nil) rfl m_enumerate) ⟨⟨_, _, _, _, _, _, _, rfl⟩, rfl, by simp⟩ PassesOwn.never rfl ?_ ?_
    · rintro i dd env m hd ⟨⟨e6, e7, e8, e9, e10, e11, e12, rfl⟩, rfl, hrows⟩
      obtain ⟨p, hx1, rfl⟩ := enumD_get hd
      have hil : i < (lotsL fs).length := by have := lt_get hx1; omega
      obtain ⟨l, hi⟩ : ∃ l, (lotsL fs)[i]? = some l := ⟨_, List.getElem?_eq_getElem hil⟩
      have hsub := lotsL_mem.mp (List.mem_of_getElem? hi)
      have hzi : ((lotsL fs).zip xs)[i]? = some (l, p) := List.getElem?_zip_eq_some.mpr ⟨hi, hx1⟩
      have hxn : Nc p := hnc.tup.2 p (List.mem_of_getElem? hx1)
      have hbad : rowB l p = false → tabB fs (.tuple xs) = false := fun e => by
        rw [htb, List.all_eq_false]
        exact ⟨(l, p), List.mem_of_getElem? hzi, by rw [e]; simp⟩
      refine ⟨_, _, (tg_tup rfl (tgl_cons (tg_name 6 sc_lshown.nd rfl (.inl rfl)) (tgl_cons (tg_name 7 sc_lshown.nd rfl (.inl rfl)) tgl_nil))), ?_⟩
      cases ht : tupB p 2 with
      | false =>
        refine bs_then (b1_if (k := !isTupD p || (!tupB p 2 || true)) (et_w (ew_or (k := !isTupD p) (k' := !tupB p 2 || true) (et_not (et_val (ev_isi (ev_var 7 rfl rfl (.inl rfl)) rfl (kit_tup p) rfl m_isinstance rfl m_tuple (by decide +kernel)) (by intro _; rfl))) (fun e => ?_) (fun _ => rfl))) (fun _ => ?_) (fun z => by rw [ht] at z; simp at z))
        · obtain ⟨zs, rfl⟩ : ∃ zs, p = .tuple zs := by cases p <;> first | exact ⟨_, rfl⟩ | cases e
          have ht2 : decide ((zs.length : Int) = 2) = false := ht
          exact ew_or (k := !tupB (.tuple zs) 2) (k' := true) (et_is (et_cmp (ev_callB call_len_seq rfl m_len PySem.boot_len (ea_cons (ev_var 7 rfl rfl (.inl rfl)) ea_nil) rc_lenT) ev_int (c_ne hr.units rfl rfl (shaped_int _) (shaped_int _)) rfl) (by rw [eqv_int]; rfl)) (fun z => by rw [ht] at z; cases z) (fun _ => rfl)
        · exact bs_ret ev_non (hno (hbad (row_no ht)) _ ⟨_, rfl⟩)
      | true =>
        obtain ⟨zs, rfl, hl2⟩ := tup_so ht
        obtain ⟨k, v, rfl⟩ := len2 hl2
        have hrb : rowB l (.tuple [k, v]) = (PyData.eqv k (encK l) && (isNonD v || fracB v)) := rfl
        have hkn : Nc k := hxn.tup.2 k (by simp)
        have hvn : Nc v := hxn.tup.2 v (by simp)
        refine bs_then (b1_if (k := false || (!decide ((([k, v] : List Dt).length : Int) = 2) || (!isTupD k || !PyData.eqv k (encK l)))) (et_w (ew_or (k := false) (et_not (k := true) (et_val (ev_isi (ev_var 7 rfl rfl (.inl rfl)) rfl (kit_tup (.tuple [k, v])) rfl m_isinstance rfl m_tuple (by decide +kernel)) (by intro _; rfl))) (fun _ => ew_or (et_is (et_cmp (ev_callB call_len_seq rfl m_len PySem.boot_len (ea_cons (ev_var 7 rfl rfl (.inl rfl)) ea_nil) rc_lenT) ev_int (c_ne hr.units rfl rfl (shaped_int _) (shaped_int _)) rfl) (by rw [eqv_int])) (fun _ => ew_or (et_not (et_val (ev_isi (ev_ixT (ds := [k, v]) (ev_var 7 rfl rfl (.inl rfl)) ev_int rfl) rfl (kit_tup k) rfl m_isinstance rfl m_tuple (by decide +kernel)) (by intro _; rfl))) (fun _ => ew_or1 (et_cmp (ev_ixT (ds := [k, v]) (ev_var 7 rfl rfl (.inl rfl)) ev_int rfl) (ev_ixL (ds := (lotsL fs).map encK) (d := encK l) (ev_var 4 rfl rfl (.inl rfl)) (ev_var 6 rfl rfl (.inl rfl)) rfl (atI_nat (by rw [List.getElem?_map, hi]; rfl))) (c_ne hr.units rfl rfl (hkn.lay.sh (by omega)) ((lay_lotK (hnm.lot hsub)).sh (by omega))) rfl)) (fun _ => rfl)) (fun _ => rfl)) (fun z => by cases z))) (fun e => ?_) (fun e => bs_nil ?_))
        · have e : PyData.eqv k (encK l) = false := by
            cases q : PyData.eqv k (encK l) with
            | false => rfl
            | true =>
              have hk := eqv_lot q
              subst hk
              rw [q] at e
              simp [encK, isTupD] at e
          refine bs_ret ev_non (hno (hbad ?_) _ ⟨_, rfl⟩)
          rw [hrb, e]; rfl
        · have e : PyData.eqv k (encK l) = true := by
            cases q : PyData.eqv k (encK l) with
            | true => rfl
            | false => rw [q] at e; simp at e
          have hk := eqv_lot e
          refine bs_then (b1_if (k := !(isNonD v || fracB v)) (et_not (et_val (ev_call d_lisgap hr (by decide) rfl (ea_cons (ev_ixT (ev_var 7 rfl rfl (.inl rfl)) ev_int rfl) ea_nil) (phP.mk v hvn)) (by intro _; rfl))) (fun e2 => ?_) (fun e2 => bs_nil ?_))
          · refine bs_ret ev_non (hno (hbad ?_) _ ⟨_, rfl⟩)
            have e2 : (isNonD v || fracB v) = false := (Bool.not_eq_true' _).mp e2
            rw [hrb, e2, Bool.and_false]
          · have e2 : (isNonD v || fracB v) = true := by
              cases q : (isNonD v || fracB v) with
              | true => rfl
              | false => rw [q] at e2; cases e2
            subst hk
            obtain ⟨hv, _⟩ := val_is e2
            have hGl : optD (G l) = v := by rw [hGa hi hx1]; exact hv.symm
            have hnew : l ∉ (lotsL fs).take i := fun z => by
              obtain ⟨j, hj⟩ := List.getElem?_of_mem z
              have hjl : j < i := by have := lt_get hj; rw [List.length_take] at this; omega
              rw [List.getElem?_take_of_lt hjl] at hj
              have := (List.getElem?_inj (by omega) hlnd).mp (hj.trans hi.symm)
              omega
            refine bs_one (b1_dput (j := μ.length) (kvs := kvG G ((lotsL fs).take i)) (k := l) (d := v) hu (ev_ixT (ev_var 7 rfl rfl (.inl rfl)) ev_int rfl) (ev_var 5 rfl rfl (.inr (.inl rfl))) (ev_ixT (ds := [encK l, v]) (ev_var 7 rfl rfl (.inl rfl)) ev_int rfl) (get_last _ _) (by rw [kvG_len, List.length_take]; omega) ?_)
            rw [set_last, kvG_put hnew]
            refine ⟨⟨_, _, _, _, _, _, _, rfl⟩, ?_, fun q hq => ?_⟩
            · have e3 : (lotsL fs).take (i + 1) = (lotsL fs).take i ++ [l] := by rw [List.take_add_one, hi]; rfl
              rw [e3]
              unfold kvG
              rw [List.map_append]
              show _ = μ ++ [some (Cl.dic P w (_ ++ [(l, optD (G l))]))]
              rw [hGl]
              rfl
            · rw [List.take_add_one, hzi] at hq
              rcases List.mem_append.mp hq with z | z
              · exact hrows q z
              · have z : q = (l, .tuple [encK l, v]) := by simpa using z
                rw [z]
                show rowB l (.tuple [encK l, v]) = true
                rw [hrb, e, e2]; rfl
    · rintro env m ⟨⟨e6, e7, e8, e9, e10, e11, e12, rfl⟩, rfl, hrows⟩
      rw [enumD_len, hxs] at hrows ⊢
      rw [List.take_of_length_le (Nat.le_refl _)]
      refine ⟨⟨_, _, _, _, _, _, _, rfl⟩, rfl, ?_⟩
      rw [htb, List.all_eq_true]
      intro q hq
      exact hrows q (by rw [List.take_of_length_le (by rw [List.length_zip]; omega)]; exact hq)
  obtain ⟨⟨e6, e7, e8, e9, e10, e11, e12, rfl⟩, rfl, htrue⟩ := z
  rw [hSh htrue]
  have hG := hG htrue
  have hlaw := shown_law (x := x) (G := G) o
  clear hno hSh htb
  refine bs_freezeD 5 (k := μ.length) (kvs := kvG G (lotsL fs)) rfl (get_last _ _) ?_
  rw [set_last]
  show Bs _ _ [some (.d (raftD r)), some (.d (folkD fs)), some (.d (rD x)), some (.d (.tuple xs)), some (.d (.list ((lotsL fs).map encK))), some (.z P w (kvG G (lotsL fs))), e6, e7, e8, e9, e10, e11, e12] _ _
  generalize hM : μ ++ [none] = M
  have hMe : ∃ ν, M = μ ++ ν := ⟨_, hM.symm⟩
  have hdr : ∀ m : MU, DicR m (.z P w (kvG G (lotsL fs))) P w (kvG G (lotsL fs)) := fun m => .inr rfl
  have hat : ∀ l' : List Str, l'.Sublist (nms fs) → atD (kvG G (lotsL fs)) l' = some (optD (G l')) := fun l' hl' => kvG_at (lotsL_mem.mpr hl')
  have hbad : ¬ shownB r fs x G = true → (∃ ν, M = μ ++ ν) ∧ DE.d .none = DE.d (if shownB r fs x G then .list ((shL fs G).map encK) else .none) := fun e => ⟨hMe, by rw [if_neg e]⟩
  cases hg0 : G [] with
  | none =>
    have h0 : atD (kvG G (lotsL fs)) [] = some .none := by rw [hat [] (List.nil_sublist _), hg0]; rfl
    refine bs_then (b1_if (k := true) (et_w (ew_or (k := true) (k' := true) (et_cmp (ev_dgetR (k := []) hu (ev_var 5 rfl rfl (.inr (.inl rfl))) ev_tup0 (hdr _) h0) ev_non c_isN rfl) (fun z => by cases z) (fun _ => rfl))) (fun _ => ?_) (fun z => by cases z))
    refine bs_ret ev_non (hbad fun z => ?_)
    obtain ⟨⟨g, e, _⟩, _⟩ := hlaw.mp z
    rw [hg0] at e; cases e
  | some g0 =>
    have h0 : atD (kvG G (lotsL fs)) [] = some (rD g0) := by rw [hat [] (List.nil_sublist _), hg0]; rfl
    have hz0 := (hG [] g0 hg0).2
    refine bs_then (b1_if (k := false || decide (x < g0)) (et_w (ew_or (k := false) (et_cmp (ev_dgetR (k := []) hu (ev_var 5 rfl rfl (.inr (.inl rfl))) ev_tup0 (hdr _) h0) ev_non c_isN rfl) (fun _ => ew_or1 (et_val (ev_call d_lless hr (by decide) rfl (ea_cons (ev_var 2 rfl rfl (.inl rfl)) (ea_cons (ev_dgetR (k := []) hu (ev_var 5 rfl rfl (.inr (.inl rfl))) ev_tup0 (hdr _) h0) ea_nil)) (phP.mk (x, g0) ⟨hx.mono (by omega), hz0.mono (by omega)⟩)) (by intro _; rfl))) (fun z => by cases z))) (fun e => ?_) (fun e => bs_nil ?_))
    · rw [Bool.false_or] at e
      have e : x < g0 := of_decide_eq_true e
      refine bs_ret ev_non (hbad fun z => ?_)
      obtain ⟨⟨g, e1, e2⟩, _⟩ := hlaw.mp z
      rw [hg0] at e1; cases e1
      exact Rat.not_lt.mpr e2 e
    rw [Bool.false_or] at e
    have hle : g0 ≤ x := Rat.not_lt.mp (of_decide_eq_false e)
    refine bs_cons (M := fun env m => (∃ e6 e7 e8 e9 e10 e11 e12, env = [some (.d (raftD r)), some (.d (folkD fs)), some (.d (rD x)), some (.d (.tuple xs)), some (.d (.list ((lotsL fs).map encK))), some (.z P w (kvG G (lotsL fs))), e6, e7, e8, e9, e10, e11, e12]) ∧ m = M ∧ shownB r fs x G = true) ?_ fun env m z => ?_
    · refine b1_for (fun i env m => (∃ e6 e7 e8 e9 e10 e11 e12, env = [some (.d (raftD r)), some (.d (folkD fs)), some (.d (rD x)), some (.d (.tuple xs)), some (.d (.list ((lotsL fs).map encK))), some (.z P w (kvG G (lotsL fs))), e6, e7, e8, e9, e10, e11, e12]) ∧ m = M ∧ ∀ l ∈ (lotsL fs).take i, LawOk r fs G l) (it_list (ds := (lotsL fs).map encK) (ev_var 4 rfl rfl (.inl rfl))) ⟨⟨_, _, _, _, _, _, _, rfl⟩, rfl, by simp⟩ PassesOwn.never rfl ?_ ?_
      · rintro i dd env M hd ⟨⟨e6, e7, e8, e9, e10, e11, e12, rfl⟩, rfl, hall⟩
        obtain ⟨l, hi, rfl⟩ := map_get hd
        have hmemL := List.mem_of_getElem? hi
        have hsub := lotsL_mem.mp hmemL
        have hl7 : l.length ≤ 7 := by have := hsub.length_le; rw [nms, List.length_map] at this; omega
        have hnx : LawOk r fs G l → ∀ l' ∈ (lotsL fs).take (i + 1), LawOk r fs G l' := fun hl l' hl' => by
          rw [List.take_add_one, hi] at hl'
          rcases List.mem_append.mp hl' with z | z
          · exact hall l' z
          · have z : l' = l := by simpa using z
            rw [z]; exact hl
        refine ⟨_, _, (tg_name 8 sc_lshown.nd rfl (.inl rfl)), ?_⟩
        cases hgl : G l with
        | none =>
          have h1 : atD (kvG G (lotsL fs)) l = some .none := by rw [hat l hsub, hgl]; rfl
          refine bs_one (b1_if (k := false) (et_cmp (ev_dgetR (k := l) hu (ev_var 5 rfl rfl (.inr (.inl rfl))) (ev_var 8 rfl rfl (.inl rfl)) (hdr _) h1) ev_non c_notN rfl) (fun z => by cases z) (fun _ => bs_nil ⟨⟨_, _, _, _, _, _, _, rfl⟩, rfl, hnx fun y e => by rw [hgl] at e; cases e⟩))
        | some y =>
          have h1 : atD (kvG G (lotsL fs)) l = some (rD y) := by rw [hat l hsub, hgl]; rfl
          have hyz := (hG l y hgl).2
          refine bs_one (b1_if (k := true) (et_cmp (ev_dgetR (k := l) hu (ev_var 5 rfl rfl (.inr (.inl rfl))) (ev_var 8 rfl rfl (.inl rfl)) (hdr _) h1) ev_non c_notN rfl) (fun _ => ?_) (fun z => by cases z))
          refine bs_set 9 (ev_call d_lleft hr (by decide) rfl (ea_cons (ev_var 1 rfl rfl (.inl rfl)) (ea_cons (ev_var 8 rfl rfl (.inl rfl)) ea_nil)) (phP.mk (fs, l) (show fs.length ≤ 1000 by omega))) ?_ sc_lshown.nd rfl (.inl rfl)
          refine bs_one (b1_for (fun j env m => (∃ e10 e11 e12, env = [some (.d (raftD r)), some (.d (folkD fs)), some (.d (rD x)), some (.d (.tuple xs)), some (.d (.list ((lotsL fs).map encK))), some (.z P w (kvG G (lotsL fs))), e6, e7, some (.d (encK l)), some (.d (folkD (stay fs l))), e10, e11, e12]) ∧ m = M ∧ ∀ mn ∈ (stay fs l).take j, ∀ v, goesM r (stay fs l) y mn = some v → ∃ g, G (nxt l mn.nm) = some g ∧ g ≤ v) (it_tup (ds := (stay fs l).map manD) (ev_var 9 rfl rfl (.inl rfl))) ⟨⟨_, _, _, rfl⟩, rfl, by simp⟩ PassesOwn.never rfl ?_ ?_)
          · rintro j d env M hd ⟨⟨e10, e11, e12, rfl⟩, rfl, hin⟩
            obtain ⟨mn, hj, rfl⟩ := map_get hd
            have hmem := List.mem_of_getElem? hj
            obtain ⟨hs1, hs2⟩ := stay_in hmem
            obtain ⟨n1, n2, n3, n4, n5⟩ := next_lot o.nd o.ri hsub hs1 hs2
            have hlg : LgO ⟨r, stay fs l, y, mn⟩ := ⟨o.rf, o.mn.stay _, nd_stay o.nd _, fun y hy => hnm y ((stay_sub _ _).mem hy), hmem, hyz.mono (by omega)⟩
            have hnx2 : (∀ v, goesM r (stay fs l) y mn = some v → ∃ g, G (nxt l mn.nm) = some g ∧ g ≤ v) → ∀ m' ∈ (stay fs l).take (j + 1), ∀ v, goesM r (stay fs l) y m' = some v → ∃ g, G (nxt l m'.nm) = some g ∧ g ≤ v := fun hl m' hl' => by
              rw [List.take_add_one, hj] at hl'
              rcases List.mem_append.mp hl' with z | z
              · exact hin m' z
              · have z : m' = mn := by simpa using z
                rw [z]; exact hl
            have hnl : ¬ (∀ v, goesM r (stay fs l) y mn = some v → ∃ g, G (nxt l mn.nm) = some g ∧ g ≤ v) → ¬ shownB r fs x G = true := fun h z => h fun v hv => (hlaw.mp z).2 l hmemL y hgl mn hmem v hv
            have hthere : atD (kvG G (lotsL fs)) (nxt l mn.nm) = some (optD (G (nxt l mn.nm))) := hat _ n1
            refine ⟨_, _, (tg_name 10 sc_lshown.nd rfl (.inl rfl)), ?_⟩
            refine bs_set 11 (ev_call d_lgoes hr (by decide) rfl (ea_cons (ev_var 0 rfl rfl (.inl rfl)) (ea_cons (ev_var 9 rfl rfl (.inl rfl)) (ea_cons (ev_dgetR (k := l) hu (ev_var 5 rfl rfl (.inr (.inl rfl))) (ev_var 8 rfl rfl (.inl rfl)) (hdr _) h1) (ea_cons (ev_ixT (ev_var 10 rfl rfl (.inl rfl)) ev_int rfl) ea_nil)))) (phP.mk (⟨r, stay fs l, y, mn⟩ : LgA) hlg)) ?_ sc_lshown.nd rfl (.inl rfl)
            have happ : DE.d (.tuple (l.map .str ++ [.str mn.nm])) = .d (.tuple ((l ++ [mn.nm]).map .str)) := by rw [List.map_append]; rfl
            refine bs_set 12 (x := .d (optD (G (nxt l mn.nm)))) (ev_dgetR (k := nxt l mn.nm) hu (ev_var 5 rfl rfl (.inr (.inl rfl))) (ev_callT call_tuple_of rfl m_tuple (by decide +kernel) (ea_cons (ev_soT (ss := l ++ [mn.nm]) (ev_is (ev_addT (ev_var 8 rfl rfl (.inl rfl)) (ev_tup1 (ev_ixT (ev_var 10 rfl rfl (.inl rfl)) ev_int rfl)) (ln (by rw [List.length_map]; simp; omega))) happ) (by simp; omega) rfl m_sorted) ea_nil) (rc_tupleL rfl)) (hdr _) hthere) ?_ sc_lshown.nd rfl (.inl rfl)
            show Bs _ _ [_, _, _, _, _, _, _, _, _, _, _, some (.d (optD (goesM r (stay fs l) y mn))), some (.d (optD (G (nxt l mn.nm))))] _ _
            cases hv : goesM r (stay fs l) y mn with
            | none =>
              exact bs_one (b1_if (k := false) (et_w (ew_and (k := false) (k' := false) (et_cmp (ev_var 11 rfl rfl (.inl rfl)) ev_non c_notN rfl) (fun z => by cases z) (fun _ => rfl))) (fun z => by cases z) (fun _ => bs_nil ⟨⟨_, _, _, rfl⟩, rfl, hnx2 fun v e => by rw [hv] at e; cases e⟩))
            | some v =>
              have hvz := goesM_szK o.rf (o.mn.stay l) hmem hyz hv
              cases hgn : G (nxt l mn.nm) with
              | none =>
                refine bs_one (b1_if (k := true && true) (et_w (ew_and (k := true) (et_cmp (ev_var 11 rfl rfl (.inl rfl)) ev_non c_notN rfl) (fun _ => ew_and1 (et_w (ew_or (k := true) (k' := true) (et_cmp (ev_var 12 rfl rfl (.inl rfl)) ev_non c_isN rfl) (fun z => by cases z) (fun _ => rfl)))) (fun z => by cases z))) (fun _ => ?_) (fun z => by cases z))
                refine bs_ret ev_non (hbad (hnl fun z => ?_))
                obtain ⟨g, e, _⟩ := z v hv
                rw [hgn] at e; cases e
              | some g =>
                have hgz := (hG _ g hgn).2
                refine bs_one (b1_if (k := true && (false || decide (v < g))) (et_w (ew_and (k := true) (et_cmp (ev_var 11 rfl rfl (.inl rfl)) ev_non c_notN rfl) (fun _ => ew_and1 (et_w (ew_or (k := false) (et_cmp (ev_var 12 rfl rfl (.inl rfl)) ev_non c_isN rfl) (fun _ => ew_or1 (et_val (ev_call d_lless hr (by decide) rfl (ea_cons (ev_var 11 rfl rfl (.inl rfl)) (ea_cons (ev_var 12 rfl rfl (.inl rfl)) ea_nil)) (phP.mk (v, g) ⟨hvz.mono (by omega), hgz.mono (by omega)⟩)) (by intro _; rfl))) (fun z => by cases z)))) (fun z => by cases z))) (fun e => ?_) (fun e => bs_nil ⟨⟨_, _, _, rfl⟩, rfl, hnx2 fun v' e' => ?_⟩))
                · have e : decide (v < g) = true := by simpa using e
                  refine bs_ret ev_non (hbad (hnl fun z => ?_))
                  obtain ⟨g', e1, e2⟩ := z v hv
                  rw [hgn] at e1; cases e1
                  exact Rat.not_lt.mpr e2 (of_decide_eq_true e)
                · have e : decide (v < g) = false := by simpa using e
                  rw [hv] at e'
                  cases e'
                  exact ⟨g, hgn, Rat.not_lt.mp (of_decide_eq_false e)⟩
          · rintro env M ⟨⟨e10, e11, e12, rfl⟩, rfl, hin⟩
            rw [List.length_map, List.take_of_length_le (Nat.le_refl _)] at hin
            refine ⟨⟨_, _, _, _, _, _, _, rfl⟩, rfl, hnx fun y' e => ?_⟩
            rw [hgl] at e
            cases e
            exact hin
      · rintro env m ⟨⟨e6, e7, e8, e9, e10, e11, e12, rfl⟩, rfl, hall⟩
        rw [List.length_map, List.take_of_length_le (Nat.le_refl _)] at hall
        exact ⟨⟨_, _, _, _, _, _, _, rfl⟩, rfl, hlaw.mpr ⟨⟨g0, hg0, hle⟩, hall⟩⟩
    · obtain ⟨⟨e6, e7, e8, e9, e10, e11, e12, rfl⟩, rfl, hs⟩ := z
      rw [hs, if_pos rfl]
      refine bs_ret (ev_lcf (own := [("lot", 8)]) (lotsL fs) encK encK (fun l => (G l).isSome) rfl sc_lshown.nd (blkOk_by (N := ["raft", "folk", "front", "thing", "every", "held", "at", "pair", "lot", "left", "one", "most", "there"]) (sc := defScope s_lshown) (by decide +kernel)) (it_list (ds := (lotsL fs).map encK) (ev_var 4 rfl rfl (.inl rfl))) (by omega) fun l hl => ⟨_, _, by decide, fun s H C cl fp => (tg_name 8 sc_lshown.nd rfl (.inl rfl)), fun s H C cl fp => ets_one (et_is (et_cmp (ev_dgetR (k := l) (kvs := kvG G (lotsL fs)) hu (ev_var 5 rfl rfl (by first | exact .inr (.inl rfl) | exact .inr (.inr rfl))) (ev_var 8 rfl rfl (.inl rfl)) (hdr _) (kvG_at hl)) ev_non c_notN rfl) (by cases G l <;> rfl)), fun _ s H C cl fp => (ev_var 8 rfl rfl (.inl rfl))⟩) ⟨hMe, rfl⟩
abbrev s_within : Stmt := topS 27
theorem sc_within : FnScope ["gap", "greatest"] ["gap", "greatest"] (defScope s_within) := ⟨rfl, rfl, rfl, by decide +kernel, rfl, by decide +kernel, by decide +kernel⟩
def withinP : Option PQ → Option PQ → Bool
  | _, none => true
  | none, some _ => false
  | some g, some a => leP g a
def ph_within : Phi := phP (fun t : Option PQ × Option PQ => (∀ g, t.1 = some g → PqOk 3900 g) ∧ ∀ g, t.2 = some g → PqOk 3900 g) (fun t => [.d (poD t.1), .d (poD t.2)]) (fun t => .bool (withinP t.1 t.2))
theorem ok_within {f : Addr} {fd : FuncData} (F : Fun K "is_within" "is_within" s_within f fd) (d_iam2 : Df P w K mg base 1 "is_at_most" ph_iam2) : FnOk P w K mg base CX0 2 f fd ["gap", "greatest"] (SpD K ph_within) := by
  refine fn_p F sc_within (fun _ => rfl) fun cdv A outer s H E hr t h μ => ?_
  obtain ⟨o, u⟩ := t
  obtain ⟨h1, h2⟩ : (∀ g, o = some g → PqOk 3900 g) ∧ ∀ g, u = some g → PqOk 3900 g := h
  cases u with
  | none =>
    refine bs_then (b1_if (k := true) (et_cmp (ev_var 1 rfl rfl (.inl rfl)) ev_non c_isN rfl) (fun _ => ?_) (fun z => by cases z))
    refine bs_ret ev_bl ⟨mu_end _, ?_⟩
    cases o <;> rfl
  | some a =>
    refine bs_then (b1_if (k := false) (et_cmp (ev_var 1 rfl rfl (.inl rfl)) ev_non c_isN rfl) (fun z => by cases z) (fun _ => bs_nil ?_))
    cases o with
    | none => exact bs_ret (x := .d (.bool false)) (ev_and (k := false) (ev_cmp (ev_var 0 rfl rfl (.inl rfl)) ev_non c_notN rfl) (fun z => by cases z) (fun _ => ⟨rfl, rfl⟩)) ⟨mu_end _, rfl⟩
    | some g => exact bs_ret (x := .d (.bool (leP g a))) (ev_and (k := true) (ev_cmp (ev_var 0 rfl rfl (.inl rfl)) ev_non c_notN rfl) (fun _ => ev_one (ev_call d_iam2 hr (by decide) rfl (ea_cons (ev_var 0 rfl rfl (.inl rfl)) (ea_cons (ev_var 1 rfl rfl (.inl rfl)) ea_nil)) (phP.mk (g, a) ⟨h1 g rfl, h2 a rfl⟩))) (fun z => by cases z)) ⟨mu_end _, rfl⟩
abbrev s_shown : Stmt := topS 28
theorem sc_shown : FnScope ["raft", "folk", "standing", "thing", "found", "lot"] ["raft", "folk", "standing", "thing"] (defScope s_shown) := ⟨rfl, rfl, rfl, by decide +kernel, rfl, by decide +kernel, by decide +kernel⟩
structure ShA where
  t : TabA
  d : Dt
structure ShO (a : ShA) : Prop where
  tb : TabO a.t
  nc : Nc a.d
def ph_shown : Phi := phP ShO (fun a => [.d (raftD a.t.r), .d (folkD a.t.fs), .d (stD a.t.g a.t.ps), .d a.d]) (fun a => shD a.t.r a.t.fs a.t.x a.d)
theorem within_val {a b : Option Rat} {c : Option PQ} {n : Nat} (hc : c.map vq = b) (ha : ∀ x, a = some x → Sz n x) (hp : ∀ g, c = some g → 0 < g.2) : withinP (a.map gp) c = withinQ a b := by
  subst hc
  cases c with
  | none => cases a <;> rfl
  | some g =>
    cases a with
    | none => rfl
    | some x =>
      show leP (gp x) g = decide (x ≤ vq g)
      rw [leP_val (gpq (ha x rfl)).pos (hp g rfl), gp_val]
theorem it_keysG {X : Cx} {env : LE} {μ μ1 : MU} {tg iter : Expr} {G : List Str → Option Rat} {ls : List (List Str)} (h : Ev X iter env μ μ1 (.z X.prog X.w (kvG G ls))) : Itb X tg iter env μ μ1 (ls.map encK) := by
  rw [← kvG_keys G ls]; exact it_keys h
theorem ok_shown {f : Addr} {fd : FuncData} (F : Fun K "shown" "shown" s_shown f fd) (d_gbl : Df P w K mg base 3 "gaps_by_lots" (ph_gbl P w)) (d_within : Df P w K mg base 2 "is_within" ph_within) (d_fg : Df P w K mg base 5 "front_gap" ph_front_gap) (d_gg : Df P w K mg base 4 "greatest_gap" (ph_gg P w)) : FnOk P w K mg base CX0 6 f fd ["raft", "folk", "standing", "thing"] (SpD K ph_shown) := by
  refine fn_p F sc_shown (fun _ => rfl) fun cdv A outer s H E hr a h μ => ?_
  obtain ⟨t, d⟩ := a
  have hT : TabO t := h.tb
  have hnc : Nc d := h.nc
  have hrf := hT.gd.rf
  have hmn := hT.gd.mn
  have h7 := hmn.1
  have hll : (lotsL t.fs).length ≤ 128 := by rw [lotsL_len]; exact pow7 h7
  have hlnd : (lotsL t.fs).Nodup := lotsL_nd hT.nd
  have hu := units1 hr
  show Bs _ _ (startE _ [.d (raftD t.r), .d (folkD t.fs), .d (stD t.g t.ps), .d d]) _ (dnP μ (shD t.r t.fs t.x d))
  have hgo : GlO ⟨t.fs, d⟩ := ⟨hmn, hT.nd, hT.nm, hnc⟩
  cases htb : tabB t.fs d with
  | false =>
    refine bs_set 4 (ev_call d_gbl hr (by decide) rfl (ea_cons (ev_var 1 rfl rfl (.inl rfl)) (ea_cons (ev_var 3 rfl rfl (.inl rfl)) ea_nil)) ⟨⟨t.fs, d⟩, hgo, rfl, .inr ⟨htb, rfl, rfl⟩⟩) ?_ sc_shown.nd rfl (.inr rfl)
    refine bs_then (b1_if (k := true) (et_w (ew_or (k := true) (k' := true) (et_cmp (ev_var 4 rfl rfl (.inr (.inl rfl))) ev_non c_isN rfl) (fun z => by cases z) (fun _ => rfl))) (fun _ => ?_) (fun z => by cases z))
    refine bs_ret ev_non ⟨mu_end _, ?_⟩
    unfold shD; rw [htb]; rfl
  | true =>
    have hSh : shD t.r t.fs t.x d = if shownB t.r t.fs t.x (gOf t.fs d) then .list ((shL t.fs (gOf t.fs d)).map encK) else .none := by unfold shD; rw [htb]; rfl
    rw [hSh]
    have hG := tab_g hnc htb
    refine bs_set 4 (ev_call d_gbl hr (by decide) rfl (ea_cons (ev_var 1 rfl rfl (.inl rfl)) (ea_cons (ev_var 3 rfl rfl (.inl rfl)) ea_nil)) ⟨⟨t.fs, d⟩, hgo, rfl, .inl ⟨htb, rfl, rfl⟩⟩) ?_ sc_shown.nd rfl (.inr rfl)
    show Bs _ _ [_, _, _, _, some (.c μ.length), _] (μ ++ [some (Cl.dic P w (kvG (gOf t.fs d) (lotsL t.fs)))]) _
    generalize gOf t.fs d = G at *
    refine bs_freezeD 4 (k := μ.length) (kvs := kvG G (lotsL t.fs)) rfl (get_last _ _) ?_
    rw [set_last]
    show Bs _ _ [some (.d (raftD t.r)), some (.d (folkD t.fs)), some (.d (stD t.g t.ps)), some (.d d), some (.z P w (kvG G (lotsL t.fs))), none] _ _
    generalize hM : μ ++ [none] = M
    have hMe : ∃ ν, M = μ ++ ν := ⟨_, hM.symm⟩
    have hdr : ∀ m : MU, DicR m (.z P w (kvG G (lotsL t.fs))) P w (kvG G (lotsL t.fs)) := fun m => .inr rfl
    have hnil : atD (kvG G (lotsL t.fs)) [] = some (poD ((G []).map gp)) := by rw [poD_gp]; exact kvG_at (lotsL_mem.mpr (List.nil_sublist _))
    have hGok : ∀ l g, (G l).map gp = some g → PqOk 231 g := fun l g e => by
      cases q : G l with
      | none => rw [q] at e; cases e
      | some x =>
        rw [q] at e
        have e : gp x = g := Option.some.inj e
        rw [← e]; exact gpq (hG l x q).2
    have hx := hT.fz
    have hw0 : withinP ((G []).map gp) (some (gp t.x)) = withinQ (G []) (some t.x) := within_val (n := 231) (by show some (vq (gp t.x)) = _; rw [gp_val]) (fun x e => (hG _ x e).2) (fun g e => by cases e; exact (gpq hx).pos)
    have hgg := fun l => ggP_val (lot := l) hrf hmn fun l x e => (hG l x e).2
    have hwl : ∀ l, withinP ((G l).map gp) (ggP t.r t.fs l fun l => (G l).map gp) = withinQ (G l) (ggQ t.r t.fs G l) := fun l => within_val (n := 231) (hgg l).1 (fun x e => (hG _ x e).2) (fun g e => ((hgg l).2 g e).pos)
    refine bs_then (b1_if (k := false || !withinP ((G []).map gp) (some (gp t.x))) (et_w (ew_or (k := false) (et_cmp (ev_var 4 rfl rfl (.inr (.inl rfl))) ev_non c_isN rfl) (fun _ => ew_or1 (et_not (et_val (ev_call d_within hr (by decide) rfl (ea_cons (ev_dgetR (k := []) hu (ev_var 4 rfl rfl (.inr (.inl rfl))) ev_tup0 (hdr _) hnil) (ea_cons (ev_is (y := .d (poD (some (gp t.x)))) (ev_call d_fg hr (by decide) rfl (ea_cons (ev_var 0 rfl rfl (.inl rfl)) (ea_cons (ev_var 1 rfl rfl (.inl rfl)) (ea_cons (ev_var 2 rfl rfl (.inl rfl)) ea_nil))) (phP.mk (t.r, t.fs, t.g, t.ps) ⟨hT.gd, hT.gs⟩)) rfl) ea_nil)) (phP.mk ((G []).map gp, some (gp t.x)) ⟨fun g e => (hGok _ g e).mono (by omega), fun g e => by cases e; exact (gpq hx).mono (by omega)⟩)) (by intro _; rfl)))) (fun z => by cases z))) (fun e => ?_) (fun e => bs_nil ?_))
    · rw [Bool.false_or, hw0] at e
      have e : withinQ (G []) (some t.x) = false := by simpa using e
      refine bs_ret ev_non ⟨hMe, ?_⟩
      unfold shownB; rw [e]; rfl
    · rw [Bool.false_or, hw0] at e
      have e : withinQ (G []) (some t.x) = true := by simpa using e
      have hsB : shownB t.r t.fs t.x G = (lotsL t.fs).all fun l => withinQ (G l) (ggQ t.r t.fs G l) := by unfold shownB; rw [e]; rfl
      refine bs_cons (M := fun env m => (∃ e5, env = [some (.d (raftD t.r)), some (.d (folkD t.fs)), some (.d (stD t.g t.ps)), some (.d d), some (.z P w (kvG G (lotsL t.fs))), e5]) ∧ m = M ∧ shownB t.r t.fs t.x G = true) ?_ fun env m z => ?_
      · refine b1_for (fun i env m => (∃ e5, env = [some (.d (raftD t.r)), some (.d (folkD t.fs)), some (.d (stD t.g t.ps)), some (.d d), some (.z P w (kvG G (lotsL t.fs))), e5]) ∧ m = M ∧ ∀ l ∈ (lotsL t.fs).take i, withinQ (G l) (ggQ t.r t.fs G l) = true) (it_keysG (G := G) (ls := lotsL t.fs) (ev_var 4 rfl rfl (.inr (.inl rfl)))) ⟨⟨_, rfl⟩, rfl, by simp⟩ PassesOwn.never rfl ?_ ?_
        · rintro i dd env m hd ⟨⟨e5, rfl⟩, rfl, hall⟩
          obtain ⟨l, hi, rfl⟩ := map_get hd
          have hsub := lotsL_mem.mp (List.mem_of_getElem? hi)
          have hl7 : l.length ≤ 7 := by have := hsub.length_le; rw [nms, List.length_map] at this; omega
          have hat : ∀ l' : List Str, l'.Sublist (nms t.fs) → atD (kvG G (lotsL t.fs)) l' = some (poD ((G l').map gp)) := fun l' hl' => by rw [poD_gp]; exact kvG_at (lotsL_mem.mpr hl')
          have hggo : GgO ⟨t.r, t.fs, l, fun l => (G l).map gp, kvG G (lotsL t.fs)⟩ := ⟨hrf, hmn, hT.nd, hT.nm, fun n hn => hsub.subset hn, hsub.nodup hT.nd, hl7, fun n hn => hat _ (List.filter_sublist.trans hsub), fun n hn g e => (hGok _ g e).mono (by omega)⟩
          refine ⟨_, _, (tg_name 5 sc_shown.nd rfl (.inl rfl)), ?_⟩
          refine bs_one (b1_if (k := !withinP ((G l).map gp) (ggP t.r t.fs l fun l => (G l).map gp)) (et_not (et_val (ev_call d_within hr (by decide) rfl (ea_cons (ev_dgetR (k := l) hu (ev_var 4 rfl rfl (.inr (.inl rfl))) (ev_var 5 rfl rfl (.inl rfl)) (hdr _) (hat l hsub)) (ea_cons (ev_call d_gg hr (by decide) rfl (ea_cons (ev_var 0 rfl rfl (.inl rfl)) (ea_cons (ev_var 1 rfl rfl (.inl rfl)) (ea_cons (ev_var 5 rfl rfl (.inl rfl)) (ea_cons (ev_var 4 rfl rfl (.inr (.inl rfl))) ea_nil)))) ⟨_, _, hggo, hdr _, rfl, rfl, rfl⟩) ea_nil)) (phP.mk ((G l).map gp, ggP t.r t.fs l fun l => (G l).map gp) ⟨fun g e => (hGok _ g e).mono (by omega), fun g e => ((hgg l).2 g e).mono (by omega)⟩)) (by intro _; rfl))) (fun e => ?_) (fun e => bs_nil ?_))
          · rw [hwl] at e
            have e : withinQ (G l) (ggQ t.r t.fs G l) = false := by simpa using e
            refine bs_ret ev_non ⟨hMe, ?_⟩
            have : shownB t.r t.fs t.x G = false := by
              rw [hsB, List.all_eq_false]
              exact ⟨l, List.mem_of_getElem? hi, by rw [e]; simp⟩
            rw [this]; rfl
          · rw [hwl] at e
            have e : withinQ (G l) (ggQ t.r t.fs G l) = true := by simpa using e
            refine ⟨⟨_, rfl⟩, rfl, fun l' hl' => ?_⟩
            rw [List.take_add_one, hi] at hl'
            rcases List.mem_append.mp hl' with z | z
            · exact hall l' z
            · have z : l' = l := by simpa using z
              rw [z]; exact e
        · rintro env m ⟨⟨e5, rfl⟩, rfl, hall⟩
          rw [List.length_map, List.take_of_length_le (Nat.le_refl _)] at hall
          refine ⟨⟨_, rfl⟩, rfl, ?_⟩
          rw [hsB, List.all_eq_true]; exact hall
      · obtain ⟨⟨e5, rfl⟩, rfl, hs⟩ := z
        rw [hs, if_pos rfl]
        refine bs_ret (ev_lcf (own := [("lot", 5)]) (lotsL t.fs) encK encK (fun l => (G l).isSome) rfl sc_shown.nd (blkOk_by (N := ["raft", "folk", "standing", "thing", "found", "lot"]) (sc := defScope s_shown) (by decide +kernel)) (it_keysG (G := G) (ls := lotsL t.fs) (ev_var 4 rfl rfl (.inr (.inl rfl)))) (by omega) fun l hl => ⟨_, _, by decide, fun s H C cl fp => (tg_name 5 sc_shown.nd rfl (.inl rfl)), fun s H C cl fp => ets_one (et_is (et_cmp (ev_dgetR (k := l) (kvs := kvG G (lotsL t.fs)) hu (ev_var 4 rfl rfl (by first | exact .inr (.inl rfl) | exact .inr (.inr rfl))) (ev_var 5 rfl rfl (.inl rfl)) (hdr _) (kvG_at hl)) ev_non c_notN rfl) (by cases G l <;> rfl)), fun _ s H C cl fp => (ev_var 5 rfl rfl (.inl rfl))⟩) ⟨hMe, rfl⟩
abbrev s_law : Stmt := topS 55
theorem sc_law : FnScope ["script", "k", "bag", "raft", "folk", "standing", "front", "best", "told", "lot", "gap", "noughts", "at", "bent", "thing", "turn", "found"] ["script"] (defScope s_law) := ⟨rfl, rfl, rfl, by decide +kernel, rfl, by decide +kernel, by decide +kernel⟩
def ph_law : Phi := phP (fun ns : List Int => ns.length ≤ 63) (fun ns => [.d (.list (ns.map .int))]) (fun _ => .bool true)
theorem shD_lay {r : Raft} {fs : List Man} (hn : NmOk fs) (x : Rat) (d : Dt) : Lay 2 (shD r fs x d) ∧ isBoolD (shD r fs x d) = false := by
  unfold shD
  split
  · refine ⟨lay_lotsK fun o ho s hs => ?_, rfl⟩
    obtain ⟨m, hm, rfl⟩ := List.mem_map.mp ((lotsL_mem.mp (List.mem_filter.mp ho).1).subset hs)
    exact hn m hm
  · exact ⟨lay_none.mono (by omega), rfl⟩
def bentD (L : List Dt) (a : Nat) (k d : Dt) : Dt := .tuple (cutD L none (some (a : Int)) ++ [.tuple [k, d]] ++ cutD L (some ((a : Int) + 1)) none)
def thingsT (L N : List Dt) (o : Dt) : List Dt := [.tuple L, .tuple N, .tuple L.reverse, .list L, .tuple (cutD L none (some (-1))), o]
theorem lots_nice {fs : List Man} (h : NmA fs) (h7 : fs.length ≤ 7) {l : List Str} (hl : l ∈ lotsL fs) : Nice 0 1 (encK l) := nice_tup (by rw [List.length_map]; have := (lotsL_mem.mp hl).length_le; rw [nms, List.length_map] at this; omega) fun y hy => by
  obtain ⟨s, hs, rfl⟩ := List.mem_map.mp hy
  obtain ⟨m, hm, rfl⟩ := List.mem_map.mp ((lotsL_mem.mp hl).subset hs)
  obtain ⟨a1, a2⟩ := names_asc _ (h m hm)
  exact nice_s a1 a2
theorem things_niceT {L N : List Dt} {o : Dt} (hL : ∀ d ∈ L, Nice 0 2 d) (hl : L.length ≤ 128) (hN : ∀ d ∈ N, Nice 0 2 d) (hn : N.length ≤ 128) (ho : Nice 0 3 o) : ∀ d ∈ thingsT L N o, Nice 0 3 d := fun d hd => by
  simp only [thingsT, List.mem_cons, List.not_mem_nil, or_false] at hd
  have hc := cut_len L none (some (-1))
  rcases hd with rfl | rfl | rfl | rfl | rfl | rfl
  · exact nice_tup (by omega) hL
  · exact nice_tup (by omega) hN
  · exact nice_tup (by rw [List.length_reverse]; omega) fun x hx => hL x (List.mem_reverse.mp hx)
  · exact nice_lst (by omega) hL
  · exact nice_tup (by omega) fun x hx => hL x (cut_mem hx)
  · exact ho
theorem bent_nice {L : List Dt} {a : Nat} {k d : Dt} (hL : ∀ d ∈ L, Nice 0 2 d) (hl : L.length ≤ 64) (hk : Nice 0 1 k) (hd : Nice 0 1 d) : Nice 0 3 (bentD L a k d) := by
  have h1 := cut_len L none (some (a : Int))
  have h2 := cut_len L (some ((a : Int) + 1)) none
  refine nice_tup (by simp only [List.length_append, List.length_cons, List.length_nil]; omega) fun x hx => ?_
  rcases List.mem_append.mp hx with z | z
  · rcases List.mem_append.mp z with z | z
    · exact hL x (cut_mem z)
    · rw [List.mem_singleton.mp z]; exact nice_t2 hk hd
  · exact hL x (cut_mem z)
theorem ok_law {f : Addr} {fd : FuncData} (F : Fun K "law" "law" s_law f fd) (m_range : mg "range" = none) (m_min : mg "min" = none) (m_len : mg "len" = none) (m_tuple : mg "tuple" = none) (m_list : mg "list" = none) (m_isinstance : mg "isinstance" = none) (m_bool : mg "bool" = none) (d_bag : Df P w K mg base 1 "_law_bag" ph_bag) (d_raft : Df P w K mg base 2 "_law_raft" ph_raft) (d_folk : Df P w K mg base 2 "_law_folk" ph_folk) (d_standing : Df P w K mg base 4 "_law_standing" ph_standing) (d_take : Df P w K mg base 1 "_law_take" ph_take) (d_lfront : Df P w K mg base 5 "_law_front" ph_lfront) (d_lbest : Df P w K mg base 4 "_law_best" (ph_lbest P w)) (d_table : Df P w K mg base 7 "table" ph_table) (d_llots : Df P w K mg base 1 "_law_lots" ph_llots) (d_lodd : Df P w K mg base 2 "_law_odd" ph_lodd) (d_shown : Df P w K mg base 6 "shown" ph_shown) (d_lshown : Df P w K mg base 4 "_law_shown" ph_lshown) (d_sp : Df P w K mg base (20 + 3) "_law_spoilt" (ph_sp 20)) : FnOk P w K mg base CX0 24 f fd ["script"] (SpD K ph_law) := by
  refine fn_p F sc_law (fun _ => rfl) fun cdv A outer s H E hr ns hp μ => ?_
  have hp : ns.length ≤ 63 := hp
  have hnl : (ns.map PyData.int).length = ns.length := List.length_map ..
  refine bs_cons (M := fun env m => ∃ ν, m = μ ++ ν) ?_ fun env m h => bs_ret ev_bl ⟨h, rfl⟩
  refine b1_for (fun i env m => (∃ e1 e2 e3 e4 e5 e6 e7 e8 e9 e10 e11 e12 e13 e14 e15 e16, env = [some (.d (.list (ns.map .int))), e1, e2, e3, e4, e5, e6, e7, e8, e9, e10, e11, e12, e13, e14, e15, e16]) ∧ ∃ ν, m = μ ++ ν) (it_range (n := 1 + (if (6 : Int) < ((ns.map PyData.int).length : Int) then 6 else ((ns.map PyData.int).length : Int))) (ea_cons (ev_add ev_int (ev_callB (call_min2 rfl) rfl m_min (by decide +kernel) (ea_cons (ev_callB call_len_seq rfl m_len PySem.boot_len (ea_cons (ev_var 0 rfl rfl (.inl rfl)) ea_nil) (rc_lenL rfl)) (ea_cons ev_int ea_nil)) rc_min2)) ea_nil) rfl m_range (by split <;> omega) (by split <;> omega)) ⟨⟨_, _, _, _, _, _, _, _, _, _, _, _, _, _, _, _, rfl⟩, mu_end μ⟩ PassesOwn.never rfl ?_ fun env m h => h.2
  rintro k d env m hd ⟨⟨e1, e2, e3, e4, e5, e6, e7, e8, e9, e10, e11, e12, e13, e14, e15, e16, rfl⟩, ν, rfl⟩
  obtain ⟨rfl, hk⟩ := upto_get hd
  have hk : k ≤ 1000 := by
    have : (1 + (if (6 : Int) < ((ns.map PyData.int).length : Int) then 6 else ((ns.map PyData.int).length : Int))).toNat ≤ 7 := by split <;> omega
    omega
  refine ⟨_, _, (tg_name 1 sc_law.nd rfl (.inl rfl)), ?_⟩
  generalize hm0 : μ ++ ν = m0
  have hmm : ∀ x : MU, (∃ ν', x = m0 ++ ν') → ∃ ν', x = μ ++ ν' := fun x ⟨y, hy⟩ => ⟨ν ++ y, by rw [hy, ← hm0, List.append_assoc]⟩
  refine bs_set 2 (ev_call d_bag hr (by decide) rfl (ea_cons (ev_var 0 rfl rfl (.inl rfl)) (ea_cons (ev_var 1 rfl rfl (.inl rfl)) ea_nil)) ⟨ns, k, rfl, hk, rfl, rfl⟩) ?_ sc_law.nd rfl (.inl rfl)
  have hg0 := bag_ok ns k
  generalize bagOf ns k = g0 at *
  have gl : ∀ s : Bag, (m0 ++ [some s.d])[m0.length]? = some (some s.d) := fun s => get_last _ _
  have sl : ∀ s t : Bag, (m0 ++ [some s.d]).set m0.length (some t.d) = m0 ++ [some t.d] := fun s t => set_last _ _ _
  refine bs_then (b1_par 3 4 (ea_cons (ev_call d_raft hr (by decide) rfl (ea_cons (ev_var 2 rfl rfl (.inl rfl)) ea_nil) (phB.mk () True.intro hg0 (gl _))) (ea_cons (ev_call d_folk hr (by decide) rfl (ea_cons (ev_var 2 rfl rfl (.inl rfl)) (ea_cons ev_int ea_nil)) (phB.mk 4 ⟨by omega, by omega⟩ (raftB_ok hg0) (bag_at (gl _)))) ea_nil)) ?_ rfl sc_law.nd rfl rfl (by decide) rfl rfl)
  have hg2 : (folkB 4 (raftB g0)).ok := folkB_ok (by omega) (raftB_ok hg0)
  have hrf := raft_ok g0
  have hmen := folk_men (s := raftB g0) (most := 4) (by omega) (by omega)
  have hfl := folk_len (s := raftB g0) (most := 4) (by omega) (by omega)
  have hnok := folk_nm 4 (raftB g0)
  have hnd := folk_nd 4 (raftB g0)
  have h_folk_rise := folk_rise 4 (raftB g0)
  have h_folk_nma := folk_nma 4 (raftB g0)
  rw [set2, sl]
  generalize raftV g0 = r at *
  generalize folkV 4 (raftB g0) = fs at *
  generalize folkB 4 (raftB g0) = g2 at *
  have hf7 := hmen.1
  refine bs_set 5 (ev_call d_standing hr (by decide) rfl (ea_cons (ev_var 2 rfl rfl (.inl rfl)) (ea_cons (ev_var 3 rfl rfl (.inl rfl)) (ea_cons (ev_var 4 rfl rfl (.inl rfl)) ea_nil))) (phB.mk (r, fs) ⟨hrf, hf7⟩ hg2 (gl _))) ?_ sc_law.nd rfl (.inl rfl)
  have dr : Draw r fs (gpV r g2) (plV r fs.length (stS r g2)) := ⟨hrf, hmen, hfl.1, (plV_len r (stS r g2) fs.length).symm, plV_ok hrf (stS r g2) fs.length, (gp_ok hrf g2).1, (gp_ok hrf g2).2⟩
  have hqt := plV_q hrf (stS r g2) fs.length
  have hg3 : (plB r fs.length (stS r g2)).ok := plB_ok (stS_ok hrf hg2) _
  show Bs _ _ _ ((m0 ++ [some g2.d]).set m0.length (some (plB r fs.length (stS r g2)).d)) _
  rw [sl]
  generalize plB r fs.length (stS r g2) = g3 at *
  generalize gpV r g2 = g at *
  generalize plV r fs.length (stS r g2) = ps at *
  have hgd := dr.good dr.ln dr.pl
  have hgs : Sz 350 g := dr.gs.mono (by omega)
  have hf4 : fs.length ≤ 4 := by have := hfl.2; omega
  have hx36 : Sz 36 (front r fs g ps) := front_q hrf hmen dr.gs hqt
  have hu := units1 hr
  refine bs_set 6 (ev_call d_lfront hr (by decide) rfl (ea_cons (ev_var 3 rfl rfl (.inl rfl)) (ea_cons (ev_var 4 rfl rfl (.inl rfl)) (ea_cons (ev_var 5 rfl rfl (.inl rfl)) ea_nil))) (phP.mk (r, fs, g, ps) ⟨hrf, hmen, hfl.1, dr.ln, hgd.sz, hgs⟩)) ?_ sc_law.nd rfl (.inl rfl)
  obtain ⟨t, rfl, rfl, rfl, rfl⟩ : ∃ t : TabA, r = t.r ∧ fs = t.fs ∧ g = t.g ∧ ps = t.ps := ⟨⟨r, fs, g, ps⟩, rfl, rfl, rfl, rfl⟩
  have hx36 : Sz 36 t.x := hx36
  have hT : TabO t := ⟨hgd, hgs, hnd, hnok, hx36.mono (by omega)⟩
  have hO : WIo t.r t.fs := ⟨hrf, hmen, hnd, h_folk_rise⟩
  have hlen : (lotsL t.fs).length ≤ 16 := by rw [lotsL_len]; exact Nat.le_trans (Nat.pow_le_pow_right (by omega) hf4) (by decide)
  have hlen1 : 1 ≤ (lotsL t.fs).length := by rw [lotsL_len]; exact Nat.one_le_two_pow
  refine bs_set 7 (x := .c (m0.length + 1)) (ev_is (ev_call d_lbest hr (by decide) rfl (ea_cons (ev_var 3 rfl rfl (.inl rfl)) (ea_cons (ev_var 4 rfl rfl (.inl rfl)) (ea_cons (ev_var 6 rfl rfl (.inl rfl)) ea_nil))) ⟨⟨t.r, t.fs, t.x⟩, ⟨hO, hnok, hf4, hx36.mono (by omega)⟩, rfl, rfl, rfl⟩) (by rw [List.length_append]; rfl)) ?_ sc_law.nd rfl (.inr rfl)
  refine bs_set 8 (ev_call d_table hr (by decide) rfl (ea_cons (ev_var 3 rfl rfl (.inl rfl)) (ea_cons (ev_var 4 rfl rfl (.inl rfl)) (ea_cons (ev_var 5 rfl rfl (.inl rfl)) ea_nil))) (phP.mk t hT)) ?_ sc_law.nd rfl (.inl rfl)
  show Bs _ _ [_, _, _, _, _, _, some (.d (rD t.x)), some (.c (m0.length + 1)), some (.d (.tuple (t.rows (lotsL t.fs)))), _, _, _, _, _, _, _, _] (m0 ++ [some g3.d] ++ [some (Cl.dic P w (kvB t.r t.fs t.x))]) _
  have hbest : ∀ b : Bag, (m0 ++ [some b.d] ++ [some (Cl.dic P w (kvB t.r t.fs t.x))])[m0.length + 1]? = some (some (Cl.dic P w (kvB t.r t.fs t.x))) := fun b => by
    rw [List.getElem?_append_right (by rw [List.length_append]; simp), List.length_append]; simp
  have hbv : ∀ l ∈ lotsL t.fs, (atD (kvB t.r t.fs t.x) l).getD .none = optD (bestG t.r t.fs t.x l.length l) := fun l hl => by
    rw [kvB_at hO (lotsL_mem.mp hl)]
    cases bestG t.r t.fs t.x l.length l <;> rfl
  have hrl : (t.rows (lotsL t.fs)).length = (lotsL t.fs).length := List.length_map ..
  have hrow : ∀ d ∈ t.rows (lotsL t.fs), Nice 0 2 d := fun d hd => by
    obtain ⟨l, hl, rfl⟩ := List.mem_map.mp hd
    refine nice_t2 (lots_nice h_folk_nma hf7 hl) ?_
    cases e : bestG t.r t.fs t.x l.length l with
    | none => exact .non
    | some x =>
      have hll := (lotsL_mem.mp hl).length_le
      rw [nms, List.length_map] at hll
      exact nice_rD (bestG_sz hrf hmen hx36 e) (by omega)
  have hncT : Nc (.tuple (t.rows (lotsL t.fs))) := nc_of (n := 0) (k := 3) (nice_tup (by omega) hrow) (by omega) (by omega)
  refine bs_then (b1_if (k := false) (et_cmp (x := .d (.tuple (t.rows (lotsL t.fs)))) (y := .d (.tuple (t.rows (lotsL t.fs)))) (ev_var 8 rfl rfl (.inl rfl)) (ev_is (ev_callT call_tuple_of rfl m_tuple (by decide +kernel) (ea_cons (ev_lcm (own := [("lot", 9)]) (lotsL t.fs) encK (fun l => .tuple [encK l, optD (bestG t.r t.fs t.x l.length l)]) rfl sc_law.nd (blkOk_by (N := ["script", "k", "bag", "raft", "folk", "standing", "front", "best", "told", "lot", "gap", "noughts", "at", "bent", "thing", "turn", "found"]) (sc := defScope s_law) (by decide +kernel)) (it_list (ds := (lotsL t.fs).map encK) (ev_call d_llots hr (by decide) rfl (ea_cons (ev_var 4 rfl rfl (.inl rfl)) ea_nil) (phP.mk t.fs hf7))) (by omega) fun l hl => ⟨_, _, by decide, fun s H C cl fp => (tg_name 9 sc_law.nd rfl (.inl rfl)), fun s H C cl fp => ev_is (ev_tup2 (ev_var 9 rfl rfl (.inl rfl)) (ev_dgetx (k := l) hu (ev_var 7 rfl rfl (by first | exact .inr (.inl rfl) | exact .inr (.inr rfl))) (ev_var 9 rfl rfl (.inl rfl)) ev_non (hbest g3))) (by rw [hbv l hl])⟩) ea_nil) (rc_tupleL rfl)) rfl) (c_neS hr.units rfl rfl (hncT.lay.sh (by omega))) rfl) (fun z => by cases z) (fun _ => bs_nil ?_))
  refine bs_set 11 (x := .d (.tuple ((lotsL t.fs).map fun l => .tuple [encK l, rD 0]))) (ev_is (ev_callT call_tuple_of rfl m_tuple (by decide +kernel) (ea_cons (ev_lcm (own := [("lot", 9), ("gap", 10)]) (lotsL t.fs) (fun l => .tuple [encK l, optD (bestG t.r t.fs t.x l.length l)]) (fun l => .tuple [encK l, rD 0]) rfl sc_law.nd (blkOk_by (N := ["script", "k", "bag", "raft", "folk", "standing", "front", "best", "told", "lot", "gap", "noughts", "at", "bent", "thing", "turn", "found"]) (sc := defScope s_law) (by decide +kernel)) (it_tup (ds := t.rows (lotsL t.fs)) (ev_var 8 rfl rfl (.inl rfl))) (by omega) fun l hl => ⟨_, _, by decide, fun s H C cl fp => (tg_tup rfl (tgl_cons (tg_name 9 sc_law.nd rfl (.inl rfl)) (tgl_cons (tg_name 10 sc_law.nd rfl (.inl rfl)) tgl_nil))), fun s H C cl fp => ev_tup2 (ev_var 9 rfl rfl (.inl rfl)) (ev_is (y := .d (rD 0)) (ev_tup2 ev_int ev_int) rfl)⟩) ea_nil) (rc_tupleL rfl)) rfl) ?_ sc_law.nd rfl (.inl rfl)
  have hN : ∀ d ∈ (lotsL t.fs).map (fun l => PyData.tuple [encK l, rD 0]), Nice 0 2 d := fun d hd => by
    obtain ⟨l, hl, rfl⟩ := List.mem_map.mp hd
    exact nice_t2 (lots_nice h_folk_nma hf7 hl) (nice_rD (m := 1) (sz_zero (by omega)) (by omega))
  have hNl : ((lotsL t.fs).map (fun l => PyData.tuple [encK l, rD 0])).length ≤ 16 := by rw [List.length_map]; exact hlen
  have hget : ∀ i, i < (t.rows (lotsL t.fs)).length → ∃ k v, (t.rows (lotsL t.fs))[i]? = some (.tuple [k, v]) ∧ Nice 0 1 k := fun i hi => by
    rw [hrl] at hi
    refine ⟨encK (lotsL t.fs)[i], optD (bestG t.r t.fs t.x (lotsL t.fs)[i].length (lotsL t.fs)[i]), ?_, lots_nice h_folk_nma hf7 (List.getElem_mem hi)⟩
    unfold TabA.rows
    rw [List.getElem?_map, List.getElem?_eq_getElem hi]; rfl
  generalize (lotsL t.fs).map (fun l => PyData.tuple [encK l, rD 0]) = N at *
  have hLl : (t.rows (lotsL t.fs)).length ≤ 16 := by omega
  have hL1 : 1 ≤ (t.rows (lotsL t.fs)).length := by omega
  generalize t.rows (lotsL t.fs) = L at *
  clear hbv hbest hrl
  generalize hω : [some (Cl.dic P w (kvB t.r t.fs t.x))] = ω
  have hωl : ω.length = 1 := by rw [← hω]; rfl
  have gC : ∀ (b : Bag) (ν : MU), (m0 ++ [some b.d] ++ ν)[m0.length]? = some (some b.d) := fun b ν => by
    rw [List.append_assoc, List.getElem?_append_right (Nat.le_refl _), Nat.sub_self]; rfl
  have sC : ∀ (b b' : Bag) (ν : MU), (m0 ++ [some b.d] ++ ν).set m0.length (some b'.d) = m0 ++ [some b'.d] ++ ν := fun b b' ν => by
    rw [List.append_assoc, List.set_append_right _ _ (Nat.le_refl _), Nat.sub_self, List.append_assoc]; rfl
  have gB : ∀ (b : Bag) (c : Cl), (m0 ++ [some b.d] ++ (ω ++ [some c]))[m0.length + 2]? = some (some c) := fun b c => by
    rw [← List.append_assoc, List.getElem?_append_right (by simp only [List.length_append, hωl, List.length_cons, List.length_nil]; omega)]
    simp only [List.length_append, hωl, List.length_cons, List.length_nil]
    rw [show m0.length + 2 - (m0.length + (0 + 1) + 1) = 0 by omega]; rfl
  have sB : ∀ (b : Bag) (c : Cl) (e : Option Cl), (m0 ++ [some b.d] ++ (ω ++ [some c])).set (m0.length + 2) e = m0 ++ [some b.d] ++ (ω ++ [e]) := fun b c e => by
    rw [← List.append_assoc, List.set_append_right _ _ (by simp only [List.length_append, hωl, List.length_cons, List.length_nil]; omega)]
    simp only [List.length_append, hωl, List.length_cons, List.length_nil]
    rw [show m0.length + 2 - (m0.length + (0 + 1) + 1) = 0 by omega, List.append_assoc]; rfl
  have hL0 : (0 : Int) < (L.length : Int) := by omega
  have ha0 := take_lo g3 hL0
  have ha1 := take_hi g3 hL0
  obtain ⟨a, ha⟩ : ∃ a : Nat, takeV g3 (L.length : Int) = (a : Int) := ⟨(takeV g3 (L.length : Int)).toNat, by omega⟩
  have hal : a < L.length := by omega
  refine bs_set 12 (ev_is (y := .d (.int (a : Int))) (ev_call d_take hr (by decide) rfl (ea_cons (ev_var 2 rfl rfl (.inl rfl)) (ea_cons (ev_callB call_len_seq rfl m_len PySem.boot_len (ea_cons (ev_var 8 rfl rfl (.inl rfl)) ea_nil) rc_lenT) ea_nil)) (phB.mk (L.length : Int) ⟨hL0, by omega⟩ hg3 (gC _ _))) (by show DE.d (.int (takeV g3 (L.length : Int))) = _; rw [ha])) ?_ sc_law.nd rfl (.inl rfl)
  rw [sC]
  have hg4 : (takeB g3 (L.length : Int)).ok := take_ok hL0 hg3
  generalize takeB g3 (L.length : Int) = g4 at *
  refine bs_set 13 (x := .c (m0.length + 2)) (ev_is ev_lstC0 (by rw [List.length_append, List.length_append, hωl]; rfl)) ?_ sc_law.nd rfl (.inl rfl)
  rw [List.append_assoc (m0 ++ [some g4.d])]
  obtain ⟨kk, vv, hrow1, hkn⟩ := hget a hal
  have hv0 := take_lo g4 (n := 500) (by omega)
  have hv1 := take_hi g4 (n := 500) (by omega)
  have hg5 : (takeB g4 500).ok := take_ok (by omega) hg4
  have hg6 : (oddB (takeB g4 500)).ok := take_ok (by omega) hg5
  refine bs_cons (M := fun env m => ∃ B : List Dt, (∀ d ∈ B, Nice 0 3 d) ∧ B.length ≤ 3 ∧ (∃ e9 e10 e14 e15 e16, env = [some (.d (.list (ns.map .int))), some (.d (.int (k : Int))), some (.c m0.length), some (.d (raftD t.r)), some (.d (folkD t.fs)), some (.d (stD t.g t.ps)), some (.d (rD t.x)), some (.c (m0.length + 1)), some (.d (.tuple L)), e9, e10, some (.d (.tuple N)), some (.d (.int (a : Int))), some (.c (m0.length + 2)), e14, e15, e16]) ∧ m = m0 ++ [some (takeB g4 500).d] ++ (ω ++ [some (Cl.lst B)])) ?_ fun env m z => ?_
  · refine b1_for (fun i env m => ∃ B : List Dt, (∀ d ∈ B, Nice 0 3 d) ∧ B.length = i ∧ (∃ e9 e10 e14 e15 e16, env = [some (.d (.list (ns.map .int))), some (.d (.int (k : Int))), some (.c m0.length), some (.d (raftD t.r)), some (.d (folkD t.fs)), some (.d (stD t.g t.ps)), some (.d (rD t.x)), some (.c (m0.length + 1)), some (.d (.tuple L)), e9, e10, some (.d (.tuple N)), some (.d (.int (a : Int))), some (.c (m0.length + 2)), e14, e15, e16]) ∧ m = m0 ++ [some (takeB g4 500).d] ++ (ω ++ [some (Cl.lst B)])) (it_list (ds := [.none, rD 0, .tuple [.int (takeV g4 500), .int 1]]) (ev_lst3 ev_non (ev_is (y := .d (rD 0)) (ev_tup2 ev_int ev_int) rfl) (ev_tup2 (ev_call d_take hr (by decide) rfl (ea_cons (ev_var 2 rfl rfl (.inl rfl)) (ea_cons ev_int ea_nil)) (phB.mk 500 ⟨by omega, by omega⟩ hg4 (gC _ _))) ev_int))) ⟨[], by simp, rfl, ⟨_, _, _, _, _, rfl⟩, by rw [sC]⟩ PassesOwn.never rfl ?_ ?_
    · rintro i d env m hd ⟨B, hB, hBl, ⟨e9, e10, e14, e15, e16, rfl⟩, rfl⟩
      have hi3 : i < 3 := lt_get hd
      have hdn : Nice 0 1 d := by
        have := List.mem_of_getElem? hd
        simp only [List.mem_cons, List.not_mem_nil, or_false] at this
        rcases this with rfl | rfl | rfl
        · exact .non
        · exact nice_rD (m := 1) (sz_zero (by omega)) (by omega)
        · exact nice_i2 (by omega) (by omega)
      have hc1 := cut_len L none (some (a : Int))
      have hc2 := cut_len L (some ((a : Int) + 1)) none
      refine ⟨_, _, (tg_name 10 sc_law.nd rfl (.inl rfl)), ?_⟩
      refine bs_one (b1_expr (ev_append (ds := B) (d := bentD L a kk d) (ev_var 13 rfl rfl (.inl rfl)) (ev_addT (ev_addT (ev_slT (ev_var 8 rfl rfl (.inl rfl)) eo_none (eo_some (ev_var 12 rfl rfl (.inl rfl)))) (ev_tup1 (ev_tup2 (ev_ixT (ds := [kk, vv]) (ev_ixT (ds := L) (ev_var 8 rfl rfl (.inl rfl)) (ev_var 12 rfl rfl (.inl rfl)) (atI_nat hrow1)) ev_int rfl) (ev_var 10 rfl rfl (.inl rfl)))) (ln (by simp only [List.length_cons, List.length_nil]; omega))) (ev_slT (ev_var 8 rfl rfl (.inl rfl)) (eo_some (ev_add (ev_var 12 rfl rfl (.inl rfl)) ev_int)) eo_none) (ln (by simp only [List.length_append, List.length_cons, List.length_nil]; omega))) ⟨_, gB _ _⟩ (gB _ _) (lnl (by omega))) ?_)
      rw [sB]
      refine ⟨B ++ [bentD L a kk d], fun d' hd' => ?_, by rw [List.length_append, hBl]; rfl, ⟨_, _, _, _, _, rfl⟩, rfl⟩
      rcases List.mem_append.mp hd' with z | z
      · exact hB d' z
      · rw [List.mem_singleton.mp z]; exact bent_nice hrow (by omega) hkn hdn
    · rintro env m ⟨B, hB, hBl, he, rfl⟩
      exact ⟨B, hB, Nat.le_of_eq hBl, he, rfl⟩
  obtain ⟨B, hB, hBl, ⟨e9, e10, e14, e15, e16, rfl⟩, rfl⟩ := z
  refine bs_freeze 13 (k := m0.length + 2) rfl (gB _ _) ?_
  rw [sB]
  generalize takeB g4 500 = g5 at *
  generalize ω ++ [none] = ω' at *
  have hall : ∀ d ∈ thingsT L N (oddV g5) ++ B, Nice 0 3 d := fun d hd => by
    rcases List.mem_append.mp hd with z | z
    · exact things_niceT hrow (by omega) hN (by omega) (oddV_nice 0 g5) d z
    · exact hB d z
  refine bs_one (b1_for (fun i env m => (∃ e14 e15 e16, env = [some (.d (.list (ns.map .int))), some (.d (.int (k : Int))), some (.c m0.length), some (.d (raftD t.r)), some (.d (folkD t.fs)), some (.d (stD t.g t.ps)), some (.d (rD t.x)), some (.c (m0.length + 1)), some (.d (.tuple L)), e9, e10, some (.d (.tuple N)), some (.d (.int (a : Int))), some (.d (.list B)), e14, e15, e16]) ∧ ∃ b, Bag.ok b ∧ m = m0 ++ [some b.d] ++ ω') (it_list (ds := thingsT L N (oddV g5) ++ B) (ev_catL (us := thingsT L N (oddV g5)) (ws := B) (ev_lst6 (ev_var 8 rfl rfl (.inl rfl)) (ev_var 11 rfl rfl (.inl rfl)) (ev_back (ds := L) (ev_var 8 rfl rfl (.inl rfl))) (ev_callT call_list_of rfl m_list (by decide +kernel) (ea_cons (ev_var 8 rfl rfl (.inl rfl)) ea_nil) rc_listT) (ev_slT (ev_var 8 rfl rfl (.inl rfl)) eo_none (eo_some (ev_neg ev_int))) (ev_call d_lodd hr (by decide) rfl (ea_cons (ev_var 2 rfl rfl (.inl rfl)) ea_nil) (phB.mk () True.intro hg5 (gC _ _)))) (ev_var 13 rfl rfl (.inl rfl)) rfl rfl (by show 6 + B.length ≤ 1000; omega))) ⟨⟨_, _, _, rfl⟩, _, hg6, sC _ _ _⟩ PassesOwn.never rfl ?_ ?_)
  · rintro i d env m hd ⟨⟨e14, e15, e16, rfl⟩, b, hb, rfl⟩
    have hdn := hall d (List.mem_of_getElem? hd)
    refine ⟨_, _, (tg_name 14 sc_law.nd rfl (.inl rfl)), ?_⟩
    refine bs_one (b1_for (fun j env m => ∃ d', Nice j (3 + 3 * j) d' ∧ (∃ e15 e16, env = [some (.d (.list (ns.map .int))), some (.d (.int (k : Int))), some (.c m0.length), some (.d (raftD t.r)), some (.d (folkD t.fs)), some (.d (stD t.g t.ps)), some (.d (rD t.x)), some (.c (m0.length + 1)), some (.d (.tuple L)), e9, e10, some (.d (.tuple N)), some (.d (.int (a : Int))), some (.d (.list B)), some (.d d'), e15, e16]) ∧ ∃ b, Bag.ok b ∧ m = m0 ++ [some b.d] ++ ω') (it_range (n := 3) (ea_cons ev_int ea_nil) rfl m_range (by omega) (by omega)) ⟨d, hdn, ⟨_, _, rfl⟩, b, hb, rfl⟩ PassesOwn.never rfl ?_ ?_)
    · rintro j dj env m hdj ⟨d', hn', ⟨e15, e16, rfl⟩, b, hb, rfl⟩
      obtain ⟨rfl, hj3⟩ := upto_get hdj
      have hj3 : j < 3 := hj3
      have hnc : Nc d' := nc_of hn' (by omega) (by omega)
      obtain ⟨hlay, hbo⟩ := shD_lay (r := t.r) hnok t.x d'
      refine ⟨_, _, (tg_name 15 sc_law.nd rfl (.inl rfl)), ?_⟩
      refine bs_set 16 (ev_call d_shown hr (by decide) rfl (ea_cons (ev_var 3 rfl rfl (.inl rfl)) (ea_cons (ev_var 4 rfl rfl (.inl rfl)) (ea_cons (ev_var 5 rfl rfl (.inl rfl)) (ea_cons (ev_var 14 rfl rfl (.inl rfl)) ea_nil)))) (phP.mk (⟨t, d'⟩ : ShA) ⟨hT, hnc⟩)) ?_ sc_law.nd rfl (.inl rfl)
      refine bs_then (b1_if (k := false || false) (et_w (ew_or (k := false) (et_val (by rw [← hbo]; exact ev_isi (ev_var 16 rfl rfl (.inl rfl)) rfl (kit_bool (shD t.r t.fs t.x d')) rfl m_isinstance rfl m_bool (by decide +kernel)) (by intro _; rfl)) (fun _ => ew_or1 (et_cmp (ev_var 16 rfl rfl (.inl rfl)) (ev_call d_lshown hr (by decide) rfl (ea_cons (ev_var 3 rfl rfl (.inl rfl)) (ea_cons (ev_var 4 rfl rfl (.inl rfl)) (ea_cons (ev_var 6 rfl rfl (.inl rfl)) (ea_cons (ev_var 14 rfl rfl (.inl rfl)) ea_nil)))) (phP.mk (⟨t.r, t.fs, t.x, d'⟩ : LshA) ⟨hO, hnok, hx36.mono (by omega), hnc⟩)) (c_neS hr.units rfl rfl (hlay.sh (by omega))) rfl)) (fun z => by cases z))) (fun z => by cases z) (fun _ => bs_nil ?_))
      refine bs_one (b1_set 14 (ev_call d_sp hr (by decide) rfl (ea_cons (ev_var 2 rfl rfl (.inl rfl)) (ea_cons (ev_var 14 rfl rfl (.inl rfl)) ea_nil)) (phB.mk d' ⟨j, by omega, hn'.deep 20 (by omega)⟩ hb (gC _ _))) ?_ sc_law.nd rfl (.inl rfl))
      rw [sC]
      refine ⟨_, (spR_nice 20 b hn' (by omega) (by omega)).deep (3 + 3 * (j + 1)) (by omega), ⟨_, _, rfl⟩, _, spR_ok 20 d' hb, rfl⟩
    · rintro env m ⟨d', _, ⟨e15, e16, rfl⟩, b, hb, rfl⟩
      exact ⟨⟨_, _, _, rfl⟩, b, hb, rfl⟩
  · rintro env m ⟨⟨e14, e15, e16, rfl⟩, b, hb, rfl⟩
    exact ⟨⟨_, _, _, _, _, _, _, _, _, _, _, _, _, _, _, _, rfl⟩, hmm _ ⟨_, List.append_assoc _ _ _⟩⟩
end
end Rw
namespace Rw
open PySem PySem.Spec PyProof.Rows L2
theorem all_mk {l : PySem.W.OpenLaw} {w : World} {K : PySem.W.Frag} {h : Heap} {mg : Str → Option Value} {fa : Addr} (X : K.In h) (G : h.Ns mainGlobals mg) (hfa : mg "law" = some (.ref fa))
    (h_cd : DefAt K "common_divisor" s_common_divisor)
    (h_lowest : DefAt K "lowest" s_lowest)
    (h_plus : DefAt K "plus" s_plus)
    (h_times : DefAt K "times" s_times)
    (h_shared : DefAt K "shared" s_shared)
    (h_hof : DefAt K "heavy_of" s_heavy_of)
    (h_hwith : DefAt K "heavy_with" s_heavy_with)
    (h_driven : DefAt K "driven" s_driven)
    (h_fg : DefAt K "front_gap" s_front_gap)
    (h_whole : DefAt K "is_whole" s_is_whole)
    (h_tof : DefAt K "is_tuple_of" s_is_tuple_of)
    (h_frac : DefAt K "is_fraction" s_is_fraction)
    (h_ix : DefAt K "index_of" s_index_of)
    (h_wo : DefAt K "without" s_without)
    (h_bag : DefAt K "_law_bag" s_bag)
    (h_take : DefAt K "_law_take" s_take)
    (h_llowest : DefAt K "_law_lowest" s_llowest)
    (h_lplus : DefAt K "_law_plus" s_lplus)
    (h_lminus : DefAt K "_law_minus" s_lminus)
    (h_ltimes : DefAt K "_law_times" s_ltimes)
    (h_lless : DefAt K "_law_less" s_lless)
    (h_raft : DefAt K "_law_raft" s_raft)
    (h_folk : DefAt K "_law_folk" s_folk)
    (h_place : DefAt K "_law_place" s_place)
    (h_places : DefAt K "_law_places" s_places)
    (h_standing : DefAt K "_law_standing" s_standing)
    (h_lheavy : DefAt K "_law_heavy" s_lheavy)
    (h_lshift : DefAt K "_law_shift" s_lshift)
    (h_lgap : DefAt K "_law_gap" s_lgap)
    (h_lfront : DefAt K "_law_front" s_lfront)
    (h_lwhole : DefAt K "_law_whole" s_lwhole)
    (h_lodd : DefAt K "_law_odd" s_lodd)
    (h_sp : DefAt K "_law_spoilt" s_lsp)
    (h_iam2 : DefAt K "is_at_most" s_iam2)
    (h_fgl : DefAt K "front_gap_less" s_fgl)
    (h_lotsof : DefAt K "lots_of" s_lotsof)
    (h_stay : DefAt K "staying" s_staying)
    (h_gg : DefAt K "greatest_gap" s_gg)
    (h_ggs : DefAt K "greatest_gaps" s_ggs)
    (h_lgoes : DefAt K "_law_goes" s_lgoes)
    (h_lleft : DefAt K "_law_left" s_lleft)
    (h_llots : DefAt K "_law_lots" s_llots)
    (h_table : DefAt K "table" s_table)
    (h_gbl : DefAt K "gaps_by_lots" s_gbl)
    (h_lbest : DefAt K "_law_best" s_lbest)
    (h_lisgap : DefAt K "_law_is_gap" s_lisgap)
    (h_lshown : DefAt K "_law_shown" s_lshown)
    (h_within : DefAt K "is_within" s_within)
    (h_shown : DefAt K "shown" s_shown)
    (h_law : DefAt K "law" s_law)
    (h_NOUGHT : PairAt K "NOUGHT" 0 1)
    (z_abs : PySem.W.nsIn K mainGlobals "abs" = some none)
    (z_bool : PySem.W.nsIn K mainGlobals "bool" = some none)
    (z_enumerate : PySem.W.nsIn K mainGlobals "enumerate" = some none)
    (z_int : PySem.W.nsIn K mainGlobals "int" = some none)
    (z_isinstance : PySem.W.nsIn K mainGlobals "isinstance" = some none)
    (z_len : PySem.W.nsIn K mainGlobals "len" = some none)
    (z_list : PySem.W.nsIn K mainGlobals "list" = some none)
    (z_min : PySem.W.nsIn K mainGlobals "min" = some none)
    (z_range : PySem.W.nsIn K mainGlobals "range" = some none)
    (z_sorted : PySem.W.nsIn K mainGlobals "sorted" = some none)
    (z_str : PySem.W.nsIn K mainGlobals "str" = some none)
    (z_sum : PySem.W.nsIn K mainGlobals "sum" = some none)
    (z_tuple : PySem.W.nsIn K mainGlobals "tuple" = some none)
    (z_zip : PySem.W.nsIn K mainGlobals "zip" = some none) :
    ∃ fd : FuncData, (∀ (s : Shared) (v : Value), BindsTo s fd ⟨[v], []⟩ [("script", v)]) ∧ ∀ base : Heap, K.In base → base.Ns mainGlobals mg → FnOk l.prog w K mg base CX0 24 fa fd ["script"] (sp_law K) := by
  have m_abs := PySem.W.mg_none_of X G z_abs
  have m_bool := PySem.W.mg_none_of X G z_bool
  have m_enumerate := PySem.W.mg_none_of X G z_enumerate
  have m_int := PySem.W.mg_none_of X G z_int
  have m_isinstance := PySem.W.mg_none_of X G z_isinstance
  have m_len := PySem.W.mg_none_of X G z_len
  have m_list := PySem.W.mg_none_of X G z_list
  have m_min := PySem.W.mg_none_of X G z_min
  have m_range := PySem.W.mg_none_of X G z_range
  have m_sorted := PySem.W.mg_none_of X G z_sorted
  have m_str := PySem.W.mg_none_of X G z_str
  have m_sum := PySem.W.mg_none_of X G z_sum
  have m_tuple := PySem.W.mg_none_of X G z_tuple
  have m_zip := PySem.W.mg_none_of X G z_zip
  have c_NOUGHT := h_NOUGHT.has X G
  obtain ⟨f, oc, od, kV, dc, pm, an, cd, ct, sl, a, lk, c, kp⟩ := h_law.ex
  have e := hfa.symm.trans (PySem.W.mg_of X G a)
  cases e
  refine ⟨PySem.W.fnOf "law" "law" (defArgs s_law) (defBody s_law) (defScope s_law) .none kV dc pm an cd ct, fun s v => .of_eq rfl, fun base _ _ => law_end ?_⟩
  have d_cd : Df l.prog w K mg base 1 "common_divisor" ph_common_divisor := h_cd.df (ps := ["one", "other"]) X G (fun _ _ _ _ _ _ us hl => match us, hl with | [_, _], _ => rfl) fun f fd F => ok_common_divisor F 
  have d_lowest : Df l.prog w K mg base 2 "lowest" ph_lowest := h_lowest.df (ps := ["top", "bottom"]) X G (fun _ _ _ _ _ _ us hl => match us, hl with | [_, _], _ => rfl) fun f fd F => ok_lowest F d_cd m_abs
  have d_plus : Df l.prog w K mg base 3 "plus" ph_plus := h_plus.df (ps := ["one", "other"]) X G (fun _ _ _ _ _ _ us hl => match us, hl with | [_, _], _ => rfl) fun f fd F => ok_plus F d_lowest
  have d_times : Df l.prog w K mg base 3 "times" ph_times := h_times.df (ps := ["fraction", "whole"]) X G (fun _ _ _ _ _ _ us hl => match us, hl with | [_, _], _ => rfl) fun f fd F => ok_times F d_lowest
  have d_shared : Df l.prog w K mg base 3 "shared" ph_shared := h_shared.df (ps := ["fraction", "whole"]) X G (fun _ _ _ _ _ _ us hl => match us, hl with | [_, _], _ => rfl) fun f fd F => ok_shared F d_lowest
  have d_hof : Df l.prog w K mg base 1 "heavy_of" ph_heavy_of := h_hof.df (ps := ["folk"]) X G (fun _ _ _ _ _ _ us hl => match us, hl with | [_], _ => rfl) fun f fd F => ok_heavy_of F m_sum
  have d_hwith : Df l.prog w K mg base 2 "heavy_with" ph_heavy_with := h_hwith.df (ps := ["raft", "folk"]) X G (fun _ _ _ _ _ _ us hl => match us, hl with | [_, _], _ => rfl) fun f fd F => ok_heavy_with F d_hof
  have d_driven : Df l.prog w K mg base 4 "driven" ph_driven := h_driven.df (ps := ["raft", "folk", "places"]) X G (fun _ _ _ _ _ _ us hl => match us, hl with | [_, _, _], _ => rfl) fun f fd F => ok_driven F c_NOUGHT m_zip d_plus d_times d_shared d_hwith
  have d_fg : Df l.prog w K mg base 5 "front_gap" ph_front_gap := h_fg.df (ps := ["raft", "folk", "standing"]) X G (fun _ _ _ _ _ _ us hl => match us, hl with | [_, _, _], _ => rfl) fun f fd F => ok_front_gap F d_plus d_driven
  have d_whole : Df l.prog w K mg base 1 "is_whole" ph_is_whole := h_whole.df (ps := ["thing"]) X G (fun _ _ _ _ _ _ us hl => match us, hl with | [_], _ => rfl) fun f fd F => ok_is_whole F m_isinstance m_int m_bool
  have d_tof : Df l.prog w K mg base 1 "is_tuple_of" ph_is_tuple_of := h_tof.df (ps := ["thing", "many"]) X G (fun _ _ _ _ _ _ us hl => match us, hl with | [_, _], _ => rfl) fun f fd F => ok_is_tuple_of F m_isinstance m_tuple m_len
  have d_frac : Df l.prog w K mg base 2 "is_fraction" ph_is_fraction := h_frac.df (ps := ["thing"]) X G (fun _ _ _ _ _ _ us hl => match us, hl with | [_], _ => rfl) fun f fd F => ok_is_fraction F d_tof d_whole d_cd
  have d_ix : Df l.prog w K mg base 1 "index_of" ph_index_of := h_ix.df (ps := ["folk", "name"]) X G (fun _ _ _ _ _ _ us hl => match us, hl with | [_, _], _ => rfl) fun f fd F => ok_index_of F m_enumerate
  have d_wo : Df l.prog w K mg base 1 "without" ph_without := h_wo.df (ps := ["things", "at"]) X G (fun _ _ _ _ _ _ us hl => match us, hl with | [_, _], _ => rfl) fun f fd F => ok_without F 
  have d_bag : Df l.prog w K mg base 1 "_law_bag" ph_bag := h_bag.df (ps := ["script", "k"]) X G (fun _ _ _ _ _ _ us hl => match us, hl with | [_, _], _ => rfl) fun f fd F => ok_bag F m_len m_abs
  have d_take : Df l.prog w K mg base 1 "_law_take" ph_take := h_take.df (ps := ["bag", "many"]) X G (fun _ _ _ _ _ _ us hl => match us, hl with | [_, _], _ => rfl) fun f fd F => ok_take F 
  have d_llowest : Df l.prog w K mg base 1 "_law_lowest" ph_llowest := h_llowest.df (ps := ["top", "bottom"]) X G (fun _ _ _ _ _ _ us hl => match us, hl with | [_, _], _ => rfl) fun f fd F => ok_llowest F m_abs
  have d_lplus : Df l.prog w K mg base 2 "_law_plus" ph_lplus := h_lplus.df (ps := ["one", "other"]) X G (fun _ _ _ _ _ _ us hl => match us, hl with | [_, _], _ => rfl) fun f fd F => ok_lplus F d_llowest
  have d_lminus : Df l.prog w K mg base 2 "_law_minus" ph_lminus := h_lminus.df (ps := ["one", "other"]) X G (fun _ _ _ _ _ _ us hl => match us, hl with | [_, _], _ => rfl) fun f fd F => ok_lminus F d_llowest
  have d_ltimes : Df l.prog w K mg base 2 "_law_times" ph_ltimes := h_ltimes.df (ps := ["part", "by"]) X G (fun _ _ _ _ _ _ us hl => match us, hl with | [_, _], _ => rfl) fun f fd F => ok_ltimes F d_llowest
  have d_lless : Df l.prog w K mg base 1 "_law_less" ph_lless := h_lless.df (ps := ["one", "other"]) X G (fun _ _ _ _ _ _ us hl => match us, hl with | [_, _], _ => rfl) fun f fd F => ok_lless F 
  have d_raft : Df l.prog w K mg base 2 "_law_raft" ph_raft := h_raft.df (ps := ["bag"]) X G (fun _ _ _ _ _ _ us hl => match us, hl with | [_], _ => rfl) fun f fd F => ok_raft F d_take
  have d_folk : Df l.prog w K mg base 2 "_law_folk" ph_folk := h_folk.df (ps := ["bag", "most"]) X G (fun _ _ _ _ _ _ us hl => match us, hl with | [_, _], _ => rfl) fun f fd F => ok_folk F m_tuple d_take
  have d_place : Df l.prog w K mg base 2 "_law_place" ph_place := h_place.df (ps := ["bag", "raft"]) X G (fun _ _ _ _ _ _ us hl => match us, hl with | [_, _], _ => rfl) fun f fd F => ok_place F d_take d_llowest
  have d_places : Df l.prog w K mg base 3 "_law_places" ph_places := h_places.df (ps := ["bag", "raft", "folk"]) X G (fun _ _ _ _ _ _ us hl => match us, hl with | [_, _, _], _ => rfl) fun f fd F => ok_places F m_tuple d_place
  have d_standing : Df l.prog w K mg base 4 "_law_standing" ph_standing := h_standing.df (ps := ["bag", "raft", "folk"]) X G (fun _ _ _ _ _ _ us hl => match us, hl with | [_, _, _], _ => rfl) fun f fd F => ok_standing F d_take d_llowest d_places
  have d_lheavy : Df l.prog w K mg base 1 "_law_heavy" ph_lheavy := h_lheavy.df (ps := ["raft", "folk"]) X G (fun _ _ _ _ _ _ us hl => match us, hl with | [_, _], _ => rfl) fun f fd F => ok_lheavy F m_sum
  have d_lshift : Df l.prog w K mg base 3 "_law_shift" ph_lshift := h_lshift.df (ps := ["folk", "before", "after"]) X G (fun _ _ _ _ _ _ us hl => match us, hl with | [_, _, _], _ => rfl) fun f fd F => ok_lshift F m_zip d_lplus d_ltimes d_lminus
  have d_lgap : Df l.prog w K mg base 4 "_law_gap" ph_lgap := h_lgap.df (ps := ["raft", "folk", "standing", "places"]) X G (fun _ _ _ _ _ _ us hl => match us, hl with | [_, _, _, _], _ => rfl) fun f fd F => ok_lgap F d_lshift d_lminus d_llowest d_lheavy
  have d_lfront : Df l.prog w K mg base 5 "_law_front" ph_lfront := h_lfront.df (ps := ["raft", "folk", "standing"]) X G (fun _ _ _ _ _ _ us hl => match us, hl with | [_, _, _], _ => rfl) fun f fd F => ok_lfront F m_len d_lgap
  have d_lwhole : Df l.prog w K mg base 1 "_law_whole" ph_lwhole := h_lwhole.df (ps := ["thing"]) X G (fun _ _ _ _ _ _ us hl => match us, hl with | [_], _ => rfl) fun f fd F => ok_lwhole F m_isinstance m_int m_bool
  have d_lodd : Df l.prog w K mg base 2 "_law_odd" ph_lodd := h_lodd.df (ps := ["bag"]) X G (fun _ _ _ _ _ _ us hl => match us, hl with | [_], _ => rfl) fun f fd F => ok_lodd F m_len d_take
  have r_sp : ∀ n, Df l.prog w K mg base (n + 3) "_law_spoilt" (ph_sp n) := fun n => by
    induction n with
    | zero => exact h_sp.df (ps := ["bag", "thing"]) X G (fun _ _ _ _ _ _ us hl => match us, hl with | [_, _], _ => rfl) fun f fd F => ok_sp F m_isinstance m_tuple m_list m_len m_str m_int d_take d_lodd (fun m e => by omega)
    | succ n ih => exact h_sp.df (ps := ["bag", "thing"]) X G (fun _ _ _ _ _ _ us hl => match us, hl with | [_, _], _ => rfl) fun f fd F => ok_sp F m_isinstance m_tuple m_list m_len m_str m_int d_take d_lodd (fun m e => by have e := Nat.succ.inj e; subst e; exact ih)
  have d_sp := r_sp 20
  have d_iam2 : Df l.prog w K mg base 1 "is_at_most" ph_iam2 := h_iam2.df (ps := ["one", "other"]) X G (fun _ _ _ _ _ _ us hl => match us, hl with | [_, _], _ => rfl) fun f fd F => ok_iam2 F 
  have d_fgl : Df l.prog w K mg base 3 "front_gap_less" ph_fgl := h_fgl.df (ps := ["raft", "folk", "gap", "name"]) X G (fun _ _ _ _ _ _ us hl => match us, hl with | [_, _, _, _], _ => rfl) fun f fd F => ok_fgl F d_ix d_hwith d_hof
  have d_lotsof : Df l.prog w K mg base 1 "lots_of" ph_lotsof := h_lotsof.df (ps := ["folk"]) X G (fun _ _ _ _ _ _ us hl => match us, hl with | [_], _ => rfl) fun f fd F => ok_lotsof F m_sorted
  have d_stay : Df l.prog w K mg base 1 "staying" ph_staying := h_stay.df (ps := ["folk", "lot"]) X G (fun _ _ _ _ _ _ us hl => match us, hl with | [_, _], _ => rfl) fun f fd F => ok_staying F m_tuple
  have d_gg : Df l.prog w K mg base 4 "greatest_gap" (ph_gg l.prog w) := h_gg.df (ps := ["raft", "folk", "lot", "found"]) X G (fun _ _ _ _ _ _ us hl => match us, hl with | [_, _, _, _], _ => rfl) fun f fd F => ok_gg F m_enumerate d_wo d_stay d_fgl d_iam2
  have d_ggs : Df l.prog w K mg base 6 "greatest_gaps" (ph_ggs l.prog w) := h_ggs.df (ps := ["raft", "folk", "standing"]) X G (fun _ _ _ _ _ _ us hl => match us, hl with | [_, _, _], _ => rfl) fun f fd F => ok_ggs F m_sorted m_len d_fg d_lotsof d_gg
  have d_lgoes : Df l.prog w K mg base 3 "_law_goes" ph_lgoes := h_lgoes.df (ps := ["raft", "folk", "front", "name"]) X G (fun _ _ _ _ _ _ us hl => match us, hl with | [_, _, _, _], _ => rfl) fun f fd F => ok_lgoes F m_sum d_lheavy d_lminus d_llowest d_lless d_ltimes
  have d_lleft : Df l.prog w K mg base 1 "_law_left" ph_lleft := h_lleft.df (ps := ["folk", "lot"]) X G (fun _ _ _ _ _ _ us hl => match us, hl with | [_, _], _ => rfl) fun f fd F => ok_lleft F m_tuple
  have d_llots : Df l.prog w K mg base 1 "_law_lots" ph_llots := h_llots.df (ps := ["folk"]) X G (fun _ _ _ _ _ _ us hl => match us, hl with | [_], _ => rfl) fun f fd F => ok_llots F m_sorted
  have d_table : Df l.prog w K mg base 7 "table" ph_table := h_table.df (ps := ["raft", "folk", "standing"]) X G (fun _ _ _ _ _ _ us hl => match us, hl with | [_, _, _], _ => rfl) fun f fd F => ok_table F m_tuple d_ggs d_lotsof d_lowest
  have d_gbl : Df l.prog w K mg base 3 "gaps_by_lots" (ph_gbl l.prog w) := h_gbl.df (ps := ["folk", "thing"]) X G (fun _ _ _ _ _ _ us hl => match us, hl with | [_, _], _ => rfl) fun f fd F => ok_gbl F m_len m_zip d_lotsof d_tof d_frac
  have d_lbest : Df l.prog w K mg base 4 "_law_best" (ph_lbest l.prog w) := h_lbest.df (ps := ["raft", "folk", "front"]) X G (fun _ _ _ _ _ _ us hl => match us, hl with | [_, _, _], _ => rfl) fun f fd F => ok_lbest F m_tuple m_sorted d_lless d_lleft d_lgoes
  have d_lisgap : Df l.prog w K mg base 2 "_law_is_gap" ph_lisgap := h_lisgap.df (ps := ["thing"]) X G (fun _ _ _ _ _ _ us hl => match us, hl with | [_], _ => rfl) fun f fd F => ok_lisgap F m_isinstance m_tuple m_len d_lwhole d_llowest
  have d_lshown : Df l.prog w K mg base 4 "_law_shown" ph_lshown := h_lshown.df (ps := ["raft", "folk", "front", "thing"]) X G (fun _ _ _ _ _ _ us hl => match us, hl with | [_, _, _, _], _ => rfl) fun f fd F => ok_lshown F m_isinstance m_tuple m_len m_enumerate m_sorted d_llots d_lisgap d_lless d_lleft d_lgoes
  have d_within : Df l.prog w K mg base 2 "is_within" ph_within := h_within.df (ps := ["gap", "greatest"]) X G (fun _ _ _ _ _ _ us hl => match us, hl with | [_, _], _ => rfl) fun f fd F => ok_within F d_iam2
  have d_shown : Df l.prog w K mg base 6 "shown" ph_shown := h_shown.df (ps := ["raft", "folk", "standing", "thing"]) X G (fun _ _ _ _ _ _ us hl => match us, hl with | [_, _, _, _], _ => rfl) fun f fd F => ok_shown F d_gbl d_within d_fg d_gg
  exact ok_law (fun_mk (st := s_law) lk c kp) m_range m_min m_len m_tuple m_list m_isinstance m_bool d_bag d_raft d_folk d_standing d_take d_lfront d_lbest d_table d_llots d_lodd d_shown d_lshown d_sp
end Rw
open PySem PySem.W PyProof.Rows
set_option maxHeartbeats 0 in
theorem PySem.Challenge.cw_raftwalk_k06_tables_judged_holds : PySem.Challenge.rw_raftwalk_k06_tables_judged.Holds := by
  w_on; o_law; k_head; (case hw => w_witness2)
  k_fill
  refine L2.walk_of (l := PySem.Challenge.rw_raftwalk_k06_tables_judged) (n := 63) (k := 24) (x := "script") (CX := fun _ => L2.CX0) (sp := fun w => Rw.sp_law _) rfl (by decide) rfl ⟨rfl, by decide, by decide⟩ (fun w h Y => PySem.W.kIn_of Y) ?F (fun _ _ a ns hl _ hS => ⟨a, ns, rfl, hS, hl, fun _ => rfl⟩) (fun _ _ _ _ _ h => h)
  case F =>
    intro w mg fa h KX G hmg
    refine' Rw.all_mk KX G hmg (Rw.def_at ?a_cd ?l_cd ?c_cd ?k_cd) (Rw.def_at ?a_lowest ?l_lowest ?c_lowest ?k_lowest) (Rw.def_at ?a_plus ?l_plus ?c_plus ?k_plus) (Rw.def_at ?a_times ?l_times ?c_times ?k_times) (Rw.def_at ?a_shared ?l_shared ?c_shared ?k_shared) (Rw.def_at ?a_hof ?l_hof ?c_hof ?k_hof) (Rw.def_at ?a_hwith ?l_hwith ?c_hwith ?k_hwith) (Rw.def_at ?a_driven ?l_driven ?c_driven ?k_driven) (Rw.def_at ?a_fg ?l_fg ?c_fg ?k_fg) (Rw.def_at ?a_whole ?l_whole ?c_whole ?k_whole) (Rw.def_at ?a_tof ?l_tof ?c_tof ?k_tof) (Rw.def_at ?a_frac ?l_frac ?c_frac ?k_frac) (Rw.def_at ?a_ix ?l_ix ?c_ix ?k_ix) (Rw.def_at ?a_wo ?l_wo ?c_wo ?k_wo) (Rw.def_at ?a_bag ?l_bag ?c_bag ?k_bag) (Rw.def_at ?a_take ?l_take ?c_take ?k_take) (Rw.def_at ?a_llowest ?l_llowest ?c_llowest ?k_llowest) (Rw.def_at ?a_lplus ?l_lplus ?c_lplus ?k_lplus) (Rw.def_at ?a_lminus ?l_lminus ?c_lminus ?k_lminus) (Rw.def_at ?a_ltimes ?l_ltimes ?c_ltimes ?k_ltimes) (Rw.def_at ?a_lless ?l_lless ?c_lless ?k_lless) (Rw.def_at ?a_raft ?l_raft ?c_raft ?k_raft) (Rw.def_at ?a_folk ?l_folk ?c_folk ?k_folk) (Rw.def_at ?a_place ?l_place ?c_place ?k_place) (Rw.def_at ?a_places ?l_places ?c_places ?k_places) (Rw.def_at ?a_standing ?l_standing ?c_standing ?k_standing) (Rw.def_at ?a_lheavy ?l_lheavy ?c_lheavy ?k_lheavy) (Rw.def_at ?a_lshift ?l_lshift ?c_lshift ?k_lshift) (Rw.def_at ?a_lgap ?l_lgap ?c_lgap ?k_lgap) (Rw.def_at ?a_lfront ?l_lfront ?c_lfront ?k_lfront) (Rw.def_at ?a_lwhole ?l_lwhole ?c_lwhole ?k_lwhole) (Rw.def_at ?a_lodd ?l_lodd ?c_lodd ?k_lodd) (Rw.def_at ?a_sp ?l_sp ?c_sp ?k_sp) (Rw.def_at ?a_iam2 ?l_iam2 ?c_iam2 ?k_iam2) (Rw.def_at ?a_fgl ?l_fgl ?c_fgl ?k_fgl) (Rw.def_at ?a_lotsof ?l_lotsof ?c_lotsof ?k_lotsof) (Rw.def_at ?a_stay ?l_stay ?c_stay ?k_stay) (Rw.def_at ?a_gg ?l_gg ?c_gg ?k_gg) (Rw.def_at ?a_ggs ?l_ggs ?c_ggs ?k_ggs) (Rw.def_at ?a_lgoes ?l_lgoes ?c_lgoes ?k_lgoes) (Rw.def_at ?a_lleft ?l_lleft ?c_lleft ?k_lleft) (Rw.def_at ?a_llots ?l_llots ?c_llots ?k_llots) (Rw.def_at ?a_table ?l_table ?c_table ?k_table) (Rw.def_at ?a_gbl ?l_gbl ?c_gbl ?k_gbl) (Rw.def_at ?a_lbest ?l_lbest ?c_lbest ?k_lbest) (Rw.def_at ?a_lisgap ?l_lisgap ?c_lisgap ?k_lisgap) (Rw.def_at ?a_lshown ?l_lshown ?c_lshown ?k_lshown) (Rw.def_at ?a_within ?l_within ?c_within ?k_within) (Rw.def_at ?a_shown ?l_shown ?c_shown ?k_shown) (Rw.def_at ?a_law ?l_law ?c_law ?k_law) (Rw.pair_at ?a_NOUGHT ?l_NOUGHT) ?z_abs ?z_bool ?z_enumerate ?z_int ?z_isinstance ?z_len ?z_list ?z_min ?z_range ?z_sorted ?z_str ?z_sum ?z_tuple ?z_zip
    (case a_cd => k_is)
    (case l_cd => k_is)
    (case c_cd => k_is)
    (case k_cd => k_is)
    (case a_lowest => k_is)
    (case l_lowest => k_is)
    (case c_lowest => k_is)
    (case k_lowest => k_is)
    (case a_plus => k_is)
    (case l_plus => k_is)
    (case c_plus => k_is)
    (case k_plus => k_is)
    (case a_times => k_is)
    (case l_times => k_is)
    (case c_times => k_is)
    (case k_times => k_is)
    (case a_shared => k_is)
    (case l_shared => k_is)
    (case c_shared => k_is)
    (case k_shared => k_is)
    (case a_hof => k_is)
    (case l_hof => k_is)
    (case c_hof => k_is)
    (case k_hof => k_is)
    (case a_hwith => k_is)
    (case l_hwith => k_is)
    (case c_hwith => k_is)
    (case k_hwith => k_is)
    (case a_driven => k_is)
    (case l_driven => k_is)
    (case c_driven => k_is)
    (case k_driven => k_is)
    (case a_fg => k_is)
    (case l_fg => k_is)
    (case c_fg => k_is)
    (case k_fg => k_is)
    (case a_whole => k_is)
    (case l_whole => k_is)
    (case c_whole => k_is)
    (case k_whole => k_is)
    (case a_tof => k_is)
    (case l_tof => k_is)
    (case c_tof => k_is)
    (case k_tof => k_is)
    (case a_frac => k_is)
    (case l_frac => k_is)
    (case c_frac => k_is)
    (case k_frac => k_is)
    (case a_ix => k_is)
    (case l_ix => k_is)
    (case c_ix => k_is)
    (case k_ix => k_is)
    (case a_wo => k_is)
    (case l_wo => k_is)
    (case c_wo => k_is)
    (case k_wo => k_is)
    (case a_bag => k_is)
    (case l_bag => k_is)
    (case c_bag => k_is)
    (case k_bag => k_is)
    (case a_take => k_is)
    (case l_take => k_is)
    (case c_take => k_is)
    (case k_take => k_is)
    (case a_llowest => k_is)
    (case l_llowest => k_is)
    (case c_llowest => k_is)
    (case k_llowest => k_is)
    (case a_lplus => k_is)
    (case l_lplus => k_is)
    (case c_lplus => k_is)
    (case k_lplus => k_is)
    (case a_lminus => k_is)
    (case l_lminus => k_is)
    (case c_lminus => k_is)
    (case k_lminus => k_is)
    (case a_ltimes => k_is)
    (case l_ltimes => k_is)
    (case c_ltimes => k_is)
    (case k_ltimes => k_is)
    (case a_lless => k_is)
    (case l_lless => k_is)
    (case c_lless => k_is)
    (case k_lless => k_is)
    (case a_raft => k_is)
    (case l_raft => k_is)
    (case c_raft => k_is)
    (case k_raft => k_is)
    (case a_folk => k_is)
    (case l_folk => k_is)
    (case c_folk => k_is)
    (case k_folk => k_is)
    (case a_place => k_is)
    (case l_place => k_is)
    (case c_place => k_is)
    (case k_place => k_is)
    (case a_places => k_is)
    (case l_places => k_is)
    (case c_places => k_is)
    (case k_places => k_is)
    (case a_standing => k_is)
    (case l_standing => k_is)
    (case c_standing => k_is)
    (case k_standing => k_is)
    (case a_lheavy => k_is)
    (case l_lheavy => k_is)
    (case c_lheavy => k_is)
    (case k_lheavy => k_is)
    (case a_lshift => k_is)
    (case l_lshift => k_is)
    (case c_lshift => k_is)
    (case k_lshift => k_is)
    (case a_lgap => k_is)
    (case l_lgap => k_is)
    (case c_lgap => k_is)
    (case k_lgap => k_is)
    (case a_lfront => k_is)
    (case l_lfront => k_is)
    (case c_lfront => k_is)
    (case k_lfront => k_is)
    (case a_lwhole => k_is)
    (case l_lwhole => k_is)
    (case c_lwhole => k_is)
    (case k_lwhole => k_is)
    (case a_lodd => k_is)
    (case l_lodd => k_is)
    (case c_lodd => k_is)
    (case k_lodd => k_is)
    (case a_sp => k_is)
    (case l_sp => k_is)
    (case c_sp => k_is)
    (case k_sp => k_is)
    (case a_iam2 => k_is)
    (case l_iam2 => k_is)
    (case c_iam2 => k_is)
    (case k_iam2 => k_is)
    (case a_fgl => k_is)
    (case l_fgl => k_is)
    (case c_fgl => k_is)
    (case k_fgl => k_is)
    (case a_lotsof => k_is)
    (case l_lotsof => k_is)
    (case c_lotsof => k_is)
    (case k_lotsof => k_is)
    (case a_stay => k_is)
    (case l_stay => k_is)
    (case c_stay => k_is)
    (case k_stay => k_is)
    (case a_gg => k_is)
    (case l_gg => k_is)
    (case c_gg => k_is)
    (case k_gg => k_is)
    (case a_ggs => k_is)
    (case l_ggs => k_is)
    (case c_ggs => k_is)
    (case k_ggs => k_is)
    (case a_lgoes => k_is)
    (case l_lgoes => k_is)
    (case c_lgoes => k_is)
    (case k_lgoes => k_is)
    (case a_lleft => k_is)
    (case l_lleft => k_is)
    (case c_lleft => k_is)
    (case k_lleft => k_is)
    (case a_llots => k_is)
    (case l_llots => k_is)
    (case c_llots => k_is)
    (case k_llots => k_is)
    (case a_table => k_is)
    (case l_table => k_is)
    (case c_table => k_is)
    (case k_table => k_is)
    (case a_gbl => k_is)
    (case l_gbl => k_is)
    (case c_gbl => k_is)
    (case k_gbl => k_is)
    (case a_lbest => k_is)
    (case l_lbest => k_is)
    (case c_lbest => k_is)
    (case k_lbest => k_is)
    (case a_lisgap => k_is)
    (case l_lisgap => k_is)
    (case c_lisgap => k_is)
    (case k_lisgap => k_is)
    (case a_lshown => k_is)
    (case l_lshown => k_is)
    (case c_lshown => k_is)
    (case k_lshown => k_is)
    (case a_within => k_is)
    (case l_within => k_is)
    (case c_within => k_is)
    (case k_within => k_is)
    (case a_shown => k_is)
    (case l_shown => k_is)
    (case c_shown => k_is)
    (case k_shown => k_is)
    (case a_law => k_is)
    (case l_law => k_is)
    (case c_law => k_is)
    (case k_law => k_is)
    (case a_NOUGHT => k_is)
    (case l_NOUGHT => k_is)
    (case z_abs => k_is)
    (case z_bool => k_is)
    (case z_enumerate => k_is)
    (case z_int => k_is)
    (case z_isinstance => k_is)
    (case z_len => k_is)
    (case z_list => k_is)
    (case z_min => k_is)
    (case z_range => k_is)
    (case z_sorted => k_is)
    (case z_str => k_is)
    (case z_sum => k_is)
    (case z_tuple => k_is)
    (case z_zip => k_is)
