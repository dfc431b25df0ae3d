import PyProof.Rows.All
import Wide.All
import OpenK.AllK
import Wide.FinOn
import KE.KExcIs
import KE.KExcMore
import HandS.ForMost
import HandS.ForExc
import HandS.ExcInit
import HandS.ExcField
import HandS.ExcIs
import HandS.ExcValue
import HandS.IsInst
import HandS.HeadHook4
import HandS.Strs
import KE.GoesEnum
import HandS.Walk
import KE.KOpsOwn
import HandS.OwnEq
import HandS.Wide
import HandS.Dict
import HandS.Style
import KE.GoesMore
import KE.GoesZip
import KE.KEqDeep
import HandS.Deep
import HandS.Lambda
import HandS.Conv
import KE.KStateDown
import HandS.Head2
import HandS.HeadEnd
import KE.SortKeyHeap
import HandS.SortKw
import HandS.Codes
import KE.KDictZip
import HandS.RepeatKit
import PyProof.ListStr
import PyProof.StrOps2
import HandS.HotCalls
import HandS.TryMany
import PyProof.ReprRoads
import PyProof.CallFns
import PyProof.Rows.FactsT3
import PyProof.StrLawsRepr
import PyProof.ReprLen
import HandS.Defaults
import HandS.HeadWalk
import PySem.Challenge.RW_letterfolds_k18_rules_of_a_monoid
set_option Elab.async false
set_option linter.all false
set_option maxRecDepth 100000
set_option maxHeartbeats 2000000
/-! Maps of points, tables of monoids: plain mathematics. -/
namespace Mon
/-- first x, then y -/
def comp (x y : List Nat) : List Nat := x.map fun i => y.getD i 0
def Valid (n : Nat) (x : List Nat) : Prop := x.length = n ∧ ∀ i ∈ x, i < n
theorem getD_at {α : Type} {l : List α} {i : Nat} {d : α} (h : i < l.length) : l.getD i d = l[i] := by simp [List.getD, h]
theorem getD_of {α : Type} {l : List α} {i : Nat} {d v : α} (h : l[i]? = some v) : l.getD i d = v := by simp [List.getD, h]
theorem comp_valid {n : Nat} {x y : List Nat} (hx : Valid n x) (hy : Valid n y) : Valid n (comp x y) := by
  refine ⟨by rw [comp, List.length_map, hx.1], fun i hi => ?_⟩
  obtain ⟨j, hj, rfl⟩ := List.mem_map.mp hi
  rw [getD_at (by rw [hy.1]; exact hx.2 j hj)]
  exact hy.2 _ (List.getElem_mem _)
theorem comp_assoc {n : Nat} {x y z : List Nat} (hx : Valid n x) (hy : Valid n y) : comp (comp x y) z = comp x (comp y z) := by
  unfold comp
  rw [List.map_map]
  refine List.map_congr_left fun i hi => ?_
  have h : i < y.length := by rw [hy.1]; exact hx.2 i hi
  show z.getD (y.getD i 0) 0 = (y.map fun j => z.getD j 0).getD i 0
  rw [getD_at h, getD_at (l := y.map fun j => z.getD j 0) (by rw [List.length_map]; exact h), List.getElem_map]
def idm (n : Nat) : List Nat := List.range n
theorem idm_valid {n : Nat} : Valid n (idm n) := ⟨List.length_range, fun i hi => List.mem_range.mp hi⟩
theorem id_comp {n : Nat} {y : List Nat} (hy : Valid n y) : comp (idm n) y = y := by
  apply List.ext_getElem
  · rw [comp, List.length_map, idm, List.length_range, hy.1]
  · intro i h1 h2
    simp only [comp, idm, List.getElem_map, List.getElem_range]
    exact getD_at h2
theorem comp_id {n : Nat} {x : List Nat} (hx : Valid n x) : comp x (idm n) = x := by
  conv => rhs; rw [← List.map_id x]
  refine List.map_congr_left fun i hi => ?_
  have h : i < (idm n).length := by rw [idm, List.length_range]; exact hx.2 i hi
  rw [getD_at h]
  simp [idm]
/-! ### how many -/
theorem nodup_lt : ∀ (N : Nat) (l : List Nat), l.Nodup → (∀ x ∈ l, x < N) → l.length ≤ N
  | 0, l, _, h => by
    cases l with
    | nil => exact Nat.le_refl _
    | cons x r => exact absurd (h x List.mem_cons_self) (Nat.not_lt_zero _)
  | N + 1, l, nd, h => by
    by_cases hm : N ∈ l
    · have q := nodup_lt N (l.erase N) (nd.erase N) fun x hx => by
        have h1 := h x (List.mem_of_mem_erase hx)
        have h2 : x ≠ N := fun e => by
          rw [e] at hx
          exact (List.Nodup.not_mem_erase nd) hx
        omega
      rw [List.length_erase_of_mem hm] at q
      omega
    · have q := nodup_lt N l nd fun x hx => by
        have h1 := h x hx
        have h2 : x ≠ N := fun e => hm (e ▸ hx)
        omega
      omega
/-- the number that a list of digits tells -/
def enc (n : Nat) : List Nat → Nat
  | [] => 0
  | i :: r => i + n * enc n r
theorem enc_lt {n : Nat} : ∀ {x : List Nat}, (∀ i ∈ x, i < n) → enc n x < n ^ x.length
  | [], _ => by simp [enc]
  | i :: r, h => by
    have a := h i List.mem_cons_self
    have b := enc_lt (x := r) fun j hj => h j (List.mem_cons_of_mem _ hj)
    have c : n * (enc n r + 1) ≤ n * n ^ r.length := Nat.mul_le_mul_left _ b
    rw [Nat.mul_add, Nat.mul_one] at c
    simp only [enc, List.length_cons, Nat.pow_succ]
    rw [Nat.mul_comm (n ^ r.length) n]
    omega
theorem enc_inj {n : Nat} : ∀ {x y : List Nat}, x.length = y.length → (∀ i ∈ x, i < n) → (∀ i ∈ y, i < n) → enc n x = enc n y → x = y
  | [], [], _, _, _, _ => rfl
  | [], _ :: _, e, _, _, _ => by cases e
  | _ :: _, [], e, _, _, _ => by cases e
  | i :: r, j :: q, e, hx, hy, h => by
    have a := hx i List.mem_cons_self
    have b := hy j List.mem_cons_self
    simp only [enc] at h
    have m1 : (i + n * enc n r) % n = i := by rw [Nat.add_mul_mod_self_left, Nat.mod_eq_of_lt a]
    have m2 : (j + n * enc n q) % n = j := by rw [Nat.add_mul_mod_self_left, Nat.mod_eq_of_lt b]
    have e1 : i = j := by rw [← m1, ← m2, h]
    subst e1
    have e2 : enc n r = enc n q := by
      have z : n * enc n r = n * enc n q := by omega
      exact Nat.eq_of_mul_eq_mul_left (by omega) z
    rw [enc_inj (by simpa using e) (fun k hk => hx k (List.mem_cons_of_mem _ hk)) (fun k hk => hy k (List.mem_cons_of_mem _ hk)) e2]
theorem maps_few {n : Nat} {f : List (List Nat)} (nd : f.Nodup) (v : ∀ x ∈ f, Valid n x) : f.length ≤ n ^ n := by
  have q := nodup_lt (n ^ n) (f.map (enc n)) ?_ ?_
  · rwa [List.length_map] at q
  · rw [List.Nodup, List.pairwise_map]
    refine nd.imp_of_mem fun {a b} ha hb ne e => ne ?_
    exact enc_inj (by rw [(v a ha).1, (v b hb).1]) (v a ha).2 (v b hb).2 e
  · intro x hx
    obtain ⟨y, hy, rfl⟩ := List.mem_map.mp hx
    have := enc_lt (v y hy).2
    rwa [(v y hy).1] at this
/-! ### the order in which numbers are met -/
def madeRow (i : Nat) : Nat → List Nat → List (Nat × Nat) → Option (List (Nat × Nat))
  | _, [], m => some m
  | c, t :: r, m => if m.length + 1 < t then none else if t = m.length + 1 then madeRow i (c + 1) r (m ++ [(i, c)]) else madeRow i (c + 1) r m
def madeTab : Nat → List (List Nat) → List (Nat × Nat) → Option (List (Nat × Nat))
  | _, [], m => some m
  | i, row :: rest, m => if m.length + 1 ≤ i then none else (madeRow i 0 row m).bind (madeTab (i + 1) rest)
theorem madeRow_snoc {i t : Nat} : ∀ {row : List Nat} {c : Nat} {m : List (Nat × Nat)}, madeRow i c (row ++ [t]) m = (madeRow i c row m).bind fun m' => if m'.length + 1 < t then none else if t = m'.length + 1 then some (m' ++ [(i, c + row.length)]) else some m'
  | [], c, m => by simp [madeRow]
  | u :: r, c, m => by
    simp only [List.cons_append, madeRow]
    split
    · rfl
    · split
      · rw [madeRow_snoc, List.length_cons, Nat.add_assoc, Nat.add_comm 1]
      · rw [madeRow_snoc, List.length_cons, Nat.add_assoc, Nat.add_comm 1]
theorem madeTab_snoc {row : List Nat} : ∀ {rows : List (List Nat)} {i : Nat} {m : List (Nat × Nat)}, madeTab i (rows ++ [row]) m = (madeTab i rows m).bind fun m' => if m'.length + 1 ≤ i + rows.length then none else madeRow (i + rows.length) 0 row m'
  | [], i, m => by
    simp only [List.nil_append, madeTab, List.length_nil, Nat.add_zero, Option.bind_some]
    split
    · rfl
    · cases madeRow i 0 row m <;> rfl
  | u :: r, i, m => by
    simp only [List.cons_append, madeTab]
    split
    · rfl
    · cases h : madeRow i 0 u m with
      | none => rfl
      | some m' =>
        simp only [Option.bind_some]
        rw [madeTab_snoc, List.length_cons]
        rw [show i + 1 + r.length = i + (r.length + 1) by omega]
/-- what was met: each number at a place of the table before it -/
theorem madeRow_ok {i : Nat} : ∀ {row : List Nat} {c : Nat} {m m' : List (Nat × Nat)}, madeRow i c row m = some m' → ∃ e, m' = m ++ e ∧ ∀ k p, e[k]? = some p → p.1 = i ∧ c ≤ p.2 ∧ row[p.2 - c]? = some (m.length + k + 1)
  | [], c, m, m', h => by
    simp only [madeRow, Option.some.injEq] at h
    exact ⟨[], by simp [h], fun k p hp => by simp at hp⟩
  | t :: r, c, m, m', h => by
    simp only [madeRow] at h
    split at h
    · cases h
    · split at h
      · rename_i ht
        obtain ⟨e, he, q⟩ := madeRow_ok h
        refine ⟨(i, c) :: e, by rw [he, List.append_assoc]; rfl, fun k p hp => ?_⟩
        cases k with
        | zero =>
          have := Option.some.inj hp
          subst this
          refine ⟨rfl, Nat.le_refl _, ?_⟩
          rw [Nat.sub_self]
          simp [ht]
        | succ k =>
          obtain ⟨q1, q2, q3⟩ := q k p (by simpa using hp)
          refine ⟨q1, by omega, ?_⟩
          rw [show p.2 - c = (p.2 - (c + 1)) + 1 by omega, List.getElem?_cons_succ, q3, List.length_append]
          congr 1
          show m.length + 1 + k + 1 = m.length + (k + 1) + 1
          omega
      · obtain ⟨e, he, q⟩ := madeRow_ok h
        refine ⟨e, he, fun k p hp => ?_⟩
        obtain ⟨q1, q2, q3⟩ := q k p hp
        refine ⟨q1, by omega, ?_⟩
        rw [show p.2 - c = (p.2 - (c + 1)) + 1 by omega, List.getElem?_cons_succ, q3]
theorem madeTab_ok : ∀ {rows : List (List Nat)} {i : Nat} {m m' : List (Nat × Nat)}, madeTab i rows m = some m' → ∃ e, m' = m ++ e ∧ ∀ k p, e[k]? = some p → i ≤ p.1 ∧ p.1 < m.length + k + 1 ∧ ∃ row, rows[p.1 - i]? = some row ∧ row[p.2]? = some (m.length + k + 1)
  | [], i, m, m', h => by
    simp only [madeTab, Option.some.injEq] at h
    exact ⟨[], by simp [h], fun k p hp => by simp at hp⟩
  | u :: r, i, m, m', h => by
    simp only [madeTab] at h
    split at h
    · cases h
    · rename_i hi
      cases h1 : madeRow i 0 u m with
      | none => rw [h1] at h; cases h
      | some m1 =>
        rw [h1, Option.bind_some] at h
        obtain ⟨e1, he1, q1⟩ := madeRow_ok h1
        obtain ⟨e2, he2, q2⟩ := madeTab_ok h
        refine ⟨e1 ++ e2, by rw [he2, he1, List.append_assoc], fun k p hp => ?_⟩
        by_cases hk : k < e1.length
        · rw [List.getElem?_append_left hk] at hp
          obtain ⟨a, b, c⟩ := q1 k p hp
          refine ⟨by omega, by omega, u, by rw [a, Nat.sub_self]; rfl, ?_⟩
          rwa [Nat.sub_zero] at c
        · rw [List.getElem?_append_right (by omega)] at hp
          obtain ⟨a, b, row, c, d⟩ := q2 _ p hp
          have le : m1.length = m.length + e1.length := by rw [he1, List.length_append]
          refine ⟨by omega, by omega, row, ?_, ?_⟩
          · rw [show p.1 - i = (p.1 - (i + 1)) + 1 by omega, List.getElem?_cons_succ, c]
          · rw [d, le]
            congr 1
            omega
theorem madeTab_app {b : List (List Nat)} : ∀ {a : List (List Nat)} {i : Nat} {m : List (Nat × Nat)}, madeTab i (a ++ b) m = (madeTab i a m).bind (madeTab (i + a.length) b)
  | [], i, m => by simp [madeTab]
  | u :: r, i, m => by
    simp only [List.cons_append, madeTab]
    split
    · rfl
    · cases madeRow i 0 u m with
      | none => rfl
      | some m' =>
        simp only [Option.bind_some]
        rw [madeTab_app, List.length_cons, show i + 1 + r.length = i + (r.length + 1) by omega]
theorem take_cons {α : Type} {l : List α} {i : Nat} {x : α} (h : l[i]? = some x) : l = l.take i ++ x :: l.drop (i + 1) ∧ l.take (i + 1) = l.take i ++ [x] ∧ (l.take i).length = i := by
  obtain ⟨hi, e⟩ := List.getElem?_eq_some_iff.mp h
  refine ⟨?_, ?_, by rw [List.length_take]; omega⟩
  · rw [← e, ← List.drop_eq_getElem_cons hi, List.take_append_drop]
  · rw [← e, List.take_succ_eq_append_getElem hi]
theorem madeTab_at {rows : List (List Nat)} {i : Nat} {row : List Nat} {m : List (Nat × Nat)} (h : madeTab 0 rows [] = some m) (hr : rows[i]? = some row) :
    ∃ m', madeTab 0 (rows.take i) [] = some m' ∧ i < m'.length + 1 ∧ ∃ m'', madeRow i 0 row m' = some m'' ∧ madeTab 0 (rows.take (i + 1)) [] = some m'' := by
  obtain ⟨e1, e2, e3⟩ := take_cons hr
  rw [e1, madeTab_app, e3, Nat.zero_add] at h
  cases h1 : madeTab 0 (rows.take i) [] with
  | none => rw [h1] at h; cases h
  | some m' =>
    rw [h1, Option.bind_some] at h
    simp only [madeTab] at h
    split at h
    · cases h
    · rename_i hi
      cases h2 : madeRow i 0 row m' with
      | none => rw [h2] at h; cases h
      | some m'' =>
        refine ⟨m', rfl, by omega, m'', h2, ?_⟩
        rw [e2, madeTab_app, h1, e3, Nat.zero_add, Option.bind_some]
        simp only [madeTab]
        rw [if_neg hi, h2]
        rfl
theorem madeRow_app {i : Nat} {b : List Nat} : ∀ {a : List Nat} {c : Nat} {m : List (Nat × Nat)}, madeRow i c (a ++ b) m = (madeRow i c a m).bind (madeRow i (c + a.length) b)
  | [], c, m => by simp [madeRow]
  | u :: r, c, m => by
    simp only [List.cons_append, madeRow, List.length_cons]
    split
    · rfl
    · split
      · rw [madeRow_app, show c + 1 + r.length = c + (r.length + 1) by omega]
      · rw [madeRow_app, show c + 1 + r.length = c + (r.length + 1) by omega]
theorem madeRow_at {row : List Nat} {i c t : Nat} {m m2 : List (Nat × Nat)} (h : madeRow i 0 row m = some m2) (hr : row[c]? = some t) :
    ∃ m', madeRow i 0 (row.take c) m = some m' ∧ t ≤ m'.length + 1 ∧ madeRow i 0 (row.take (c + 1)) m = some (if t = m'.length + 1 then m' ++ [(i, c)] else m') := by
  obtain ⟨e1, e2, e3⟩ := take_cons hr
  rw [e1, madeRow_app, e3, Nat.zero_add] at h
  cases h1 : madeRow i 0 (row.take c) m with
  | none => rw [h1] at h; cases h
  | some m' =>
    rw [h1, Option.bind_some] at h
    simp only [madeRow] at h
    split at h
    · cases h
    · rename_i hi
      refine ⟨m', rfl, by omega, ?_⟩
      rw [e2, madeRow_app, h1, e3, Nat.zero_add, Option.bind_some]
      simp only [madeRow]
      rw [if_neg hi]
      split <;> rfl
theorem madeTab_lt {rows : List (List Nat)} {m : List (Nat × Nat)} (h : madeTab 0 rows [] = some m) {k : Nat} {p : Nat × Nat} (hp : m[k]? = some p) : p.1 < k + 1 ∧ ∃ row, rows[p.1]? = some row ∧ row[p.2]? = some (k + 1) := by
  obtain ⟨e, he, q⟩ := madeTab_ok h
  rw [List.nil_append] at he
  subst he
  obtain ⟨_, a, row, b, c⟩ := q k p hp
  refine ⟨by simpa using a, row, by simpa using b, by simpa using c⟩
/-! ### a table that maps act by -/
structure Tab (n : Nat) (gens found rows : List (List Nat)) : Prop where
  nd : found.Nodup
  val : ∀ x ∈ found, Valid n x
  gval : ∀ g ∈ gens, Valid n g
  head : found[0]? = some (idm n)
  len : rows.length = found.length
  wid : ∀ (i : Nat) row, rows[i]? = some row → row.length = gens.length
  ent : ∀ (i : Nat) row, rows[i]? = some row → ∀ (c t : Nat), row[c]? = some t → ∃ x g, found[i]? = some x ∧ gens[c]? = some g ∧ found[t]? = some (comp x g)
def leftStep (rows : List (List Nat)) (L : List (List Nat)) (p : Nat × Nat) : List (List Nat) := L ++ [(L.getD p.1 []).map fun x => (rows.getD x []).getD p.2 0]
def leftTab (rows : List (List Nat)) (made : List (Nat × Nat)) : List (List Nat) := made.foldl (leftStep rows) [rows.getD 0 []]
/-- row k of the left table tells what letters in front of element k are -/
def LeftOk (gens found : List (List Nat)) (k : Nat) (l : List Nat) : Prop := l.length = gens.length ∧ ∀ (a e : Nat), l[a]? = some e → ∃ g x, gens[a]? = some g ∧ found[k]? = some x ∧ found[e]? = some (comp g x)
theorem nodup_at {α : Type} {l : List α} (nd : l.Nodup) {i j : Nat} {x : α} (h1 : l[i]? = some x) (h2 : l[j]? = some x) : i = j := by
  obtain ⟨a, ha⟩ := List.getElem?_eq_some_iff.mp h1
  obtain ⟨b, hb⟩ := List.getElem?_eq_some_iff.mp h2
  have pw := List.pairwise_iff_getElem.mp nd
  rcases Nat.lt_trichotomy i j with h | h | h
  · exact absurd (ha.trans hb.symm) (pw i j a b h)
  · exact h
  · exact absurd (hb.trans ha.symm) (pw j i b a h)
section
variable {n : Nat} {gens found rows : List (List Nat)}
theorem Tab.at (T : Tab n gens found rows) {i : Nat} {x : List Nat} (h : found[i]? = some x) : ∃ row, rows[i]? = some row := by
  have := (List.getElem?_eq_some_iff.mp h).1
  exact ⟨_, List.getElem?_eq_getElem (by rw [T.len]; exact this)⟩
/-- the entry of row i at letter c -/
theorem Tab.get (T : Tab n gens found rows) {i c : Nat} {x g : List Nat} (h : found[i]? = some x) (hg : gens[c]? = some g) : found[(rows.getD i []).getD c 0]? = some (comp x g) := by
  obtain ⟨row, hr⟩ := T.at h
  have hc : c < row.length := by rw [T.wid i row hr]; exact (List.getElem?_eq_some_iff.mp hg).1
  obtain ⟨x', g', h1, h2, h3⟩ := T.ent i row hr c row[c] (List.getElem?_eq_getElem hc)
  rw [h] at h1
  rw [hg] at h2
  cases h1
  cases h2
  rw [getD_of hr, getD_at hc]
  exact h3
theorem left_len {made : List (Nat × Nat)} : (leftTab rows made).length = made.length + 1 := by
  unfold leftTab
  suffices h : ∀ (m : List (Nat × Nat)) (L : List (List Nat)), (m.foldl (leftStep rows) L).length = L.length + m.length by
    rw [h, List.length_singleton, Nat.add_comm]
  intro m
  induction m with
  | nil => intro L; simp
  | cons p r ih => intro L; rw [List.foldl_cons, ih, leftStep, List.length_append, List.length_singleton, List.length_cons]; omega
theorem left_snoc {made : List (Nat × Nat)} {p : Nat × Nat} : leftTab rows (made ++ [p]) = leftStep rows (leftTab rows made) p := by
  unfold leftTab
  rw [List.foldl_append]
  rfl
theorem left_ok (T : Tab n gens found rows) (hz : gens ≠ []) : ∀ (made : List (Nat × Nat)), (∀ k p, made[k]? = some p → p.1 < k + 1 ∧ ∃ row, rows[p.1]? = some row ∧ row[p.2]? = some (k + 1)) → ∀ k l, (leftTab rows made)[k]? = some l → LeftOk gens found k l := by
  intro made
  have base : ∀ l, rows.getD 0 [] = l → LeftOk gens found 0 l := fun l hl => by
    obtain ⟨row, hr⟩ := T.at T.head
    rw [getD_of hr] at hl
    subst hl
    refine ⟨T.wid 0 row hr, fun a e he => ?_⟩
    obtain ⟨x, g, h1, h2, h3⟩ := T.ent 0 row hr a e he
    rw [T.head] at h1
    cases h1
    have gv := T.gval g (List.mem_of_getElem? h2)
    refine ⟨g, idm n, h2, T.head, ?_⟩
    rw [comp_id gv, h3, id_comp gv]
  suffices h : ∀ (r : List (Nat × Nat)) (m : List (Nat × Nat)), (∀ k p, (m ++ r)[k]? = some p → p.1 < k + 1 ∧ ∃ row, rows[p.1]? = some row ∧ row[p.2]? = some (k + 1)) → (∀ k l, (leftTab rows m)[k]? = some l → LeftOk gens found k l) →
      ∀ k l, (leftTab rows (m ++ r))[k]? = some l → LeftOk gens found k l by
    intro hm
    have := h made [] (by simpa using hm) (fun k l hl => by
      unfold leftTab at hl
      cases k with
      | zero => exact base l (Option.some.inj hl)
      | succ k => simp at hl)
    simpa using this
  intro r
  induction r with
  | nil => intro m _ h; simpa using h
  | cons p r ih =>
    intro m hm h
    rw [List.append_cons]
    refine ih (m ++ [p]) (by rw [← List.append_cons]; exact hm) fun k l hl => ?_
    rw [left_snoc, leftStep] at hl
    by_cases hk : k < (leftTab rows m).length
    · rw [List.getElem?_append_left hk] at hl
      exact h k l hl
    · have hk2 : k = (leftTab rows m).length := by
        have := (List.getElem?_eq_some_iff.mp hl).1
        rw [List.length_append, List.length_singleton] at this
        omega
      rw [List.getElem?_append_right (by omega), hk2, Nat.sub_self] at hl
      have el := Option.some.inj hl
      have kl : k = m.length + 1 := by rw [hk2, left_len]
      obtain ⟨b1, row, hrow, hent⟩ := hm m.length p (by rw [List.getElem?_append_right (Nat.le_refl _), Nat.sub_self]; rfl)
      obtain ⟨xb, gp, hxb, hgp, hfk⟩ := T.ent p.1 row hrow p.2 _ hent
      have hb : p.1 < (leftTab rows m).length := by rw [left_len]; exact b1
      have hL := h p.1 ((leftTab rows m)[p.1]) (List.getElem?_eq_getElem hb)
      rw [getD_at hb] at el
      refine ⟨by rw [← el, List.length_map]; exact hL.1, fun a e he => ?_⟩
      rw [← el, List.getElem?_map] at he
      cases q : ((leftTab rows m)[p.1])[a]? with
      | none => rw [q] at he; cases he
      | some e0 =>
        rw [q] at he
        have ee := Option.some.inj he
        obtain ⟨g, x, h1, h2, h3⟩ := hL.2 a e0 q
        rw [hxb] at h2
        cases h2
        have z := T.get h3 hgp
        have gv := T.gval g (List.mem_of_getElem? h1)
        have xv := T.val xb (List.mem_of_getElem? hxb)
        refine ⟨g, comp xb gp, h1, by rw [kl]; exact hfk, ?_⟩
        rw [← ee, z, comp_assoc gv xv]
theorem prod_ok (T : Tab n gens found rows) (hz : gens ≠ []) {L : List (List Nat)} (hL : ∀ k l, L[k]? = some l → LeftOk gens found k l) {i c t : Nat} {row li lt : List Nat} (h1 : rows[i]? = some row) (h2 : row[c]? = some t) (h3 : L[i]? = some li) (h4 : L[t]? = some lt) :
    lt = li.map fun x => (rows.getD x []).getD c 0 := by
  obtain ⟨x, g, hx, hg, ht⟩ := T.ent i row h1 c t h2
  have a := hL i li h3
  have b := hL t lt h4
  apply List.ext_getElem
  · rw [List.length_map, a.1, b.1]
  · intro k k1 k2
    rw [List.length_map] at k2
    rw [List.getElem_map]
    obtain ⟨ga, y, e1, e2, e3⟩ := b.2 k lt[k] (List.getElem?_eq_getElem k1)
    obtain ⟨gb, z, e4, e5, e6⟩ := a.2 k li[k] (List.getElem?_eq_getElem k2)
    rw [e1] at e4
    cases e4
    rw [ht] at e2
    cases e2
    rw [hx] at e5
    cases e5
    have q := T.get e6 hg
    have gv := T.gval ga (List.mem_of_getElem? e1)
    have xv := T.val x (List.mem_of_getElem? hx)
    rw [comp_assoc gv xv] at q
    exact nodup_at T.nd e3 q
end
end Mon

set_option Elab.async false
set_option linter.all false
set_option maxRecDepth 100000
set_option maxHeartbeats 4000000
/-! Facts of error classes. -/
namespace Lf
open PySem PySem.Spec PyProof.Rows L2
/-- what isinstance of an error of the class at C wants -/
structure IsC (K : PySem.W.Frag) (C : Addr) : Prop where
  cl : (PySem.W.clsIn K C).isSome = true
  ga : PySem.W.findIn K (.ref C) "__getattribute__" = some (some (.builtin "BaseException.__getattribute__"))
  gg : PySem.W.findIn K (.ref C) "__getattr__" = some none
  sb : PySem.W.subIn K (.ref C) (.type "BaseException") = some true
  ca : PySem.W.findIn K (.ref C) "__class__" = some (some (.builtin "object.__class__"))
  sg : PySem.W.specialIn K (.builtin "object.__class__") "__get__" = some (some (.builtin "getset_descriptor.__get__"))
  tk : PySem.W.takesIn K (.builtin "object.__class__") = some true
  ob : PySem.W.mroIn K C (.type "object") = some true
/-! ### the classes by one look at the written part -/
/-- an exception class over ValueError -/
def oexB (K : PySem.W.Frag) (C : Addr) : Bool := match K.lookup C with
  | some ⟨.type t, _, .cls cd, sl⟩ => (match cd.mro, sl.toList with
    | .ref D :: bm, [_, _, _, _, some (.builtin n), _] => decide (t = "type") && (decide (D = C) && (decide (n = "ValueError.__new__") && (!cd.hasDel && (cd.hasDict && PySem.HandSPX.refsVE bm))))
    | _, _ => false)
  | _ => false
theorem oexB_ok {K : PySem.W.Frag} {C : Addr} (h : oexB K C = true) : ∃ nm q N bs bm sn sub ab col dd k0 k1 k2 k3 k5,
    K.lookup C = some (excClassObj nm q C N bs bm true sn sub ab col dd k0 k1 k2 k3 k5 "ValueError.__new__") ∧ PySem.HandSPX.refsVE bm = true := by
  unfold oexB at h
  split at h
  · rename_i t dd cd sl lk
    split at h
    · rename_i D bm k0 k1 k2 k3 n k5 hm hs
      simp only [Bool.and_eq_true, decide_eq_true_eq, Bool.not_eq_true'] at h
      obtain ⟨rfl, rfl, rfl, h4, h5, h6⟩ := h
      obtain ⟨nm, bs, mro, ns, qn, hd, sn, sub, ab, col, del⟩ := cd
      dsimp only at hm h4 h5
      subst hm h4 h5
      obtain ⟨l⟩ := sl
      dsimp only at hs
      subst hs
      exact ⟨nm, qn, ns, bs, bm, sn, sub, ab, col, dd, k0, k1, k2, k3, k5, lk, h6⟩
    · cases h
  · cases h
def errB (K : PySem.W.Frag) (C : Addr) : Bool :=
  oexB K C && (decide (PySem.W.findIn K (.ref C) "__setattr__" = some (some (.builtin "object.__setattr__"))) && (decide (PySem.W.subIn K (.ref C) (.type "BaseException") = some true) &&
  (decide (PySem.W.typeIn K (.ref C) = some (.type "type")) && (PySem.W.keepIn K (.ref C) && (PySem.W.hasDictIn K C &&
  (decide (PySem.W.findIn K (.ref C) "__getattribute__" = some (some (.builtin "BaseException.__getattribute__"))) && (decide (PySem.W.findIn K (.ref C) "__getattr__" = some none) &&
  (decide (PySem.W.findIn K (.ref C) "__class__" = some (some (.builtin "object.__class__"))) && (decide (PySem.W.specialIn K (.builtin "object.__class__") "__get__" = some (some (.builtin "getset_descriptor.__get__"))) &&
  (decide (PySem.W.takesIn K (.builtin "object.__class__") = some true) && decide (PySem.W.mroIn K C (.type "object") = some true)))))))))))
structure ErrC (K : PySem.W.Frag) (C : Addr) : Prop where
  o : OexC K C
  x : XfC K C
  i : IsC K C
theorem errB_ok {K : PySem.W.Frag} {C : Addr} (h : errB K C = true) : ErrC K C := by
  unfold errB at h
  simp only [Bool.and_eq_true, decide_eq_true_eq] at h
  obtain ⟨h1, h2, h3, h4, h5, h6, h7, h8, h9, h10, h11, h12⟩ := h
  have hc : (PySem.W.clsIn K C).isSome = true := by
    obtain ⟨nm, q, N, bs, bm, sn, sub, ab, col, dd, k0, k1, k2, k3, k5, lk, _⟩ := oexB_ok h1
    unfold PySem.W.clsIn
    rw [lk] <;> rfl
  exact ⟨⟨oexB_ok h1, h2, h3, h4, h5⟩, ⟨h7, h8, h3, h6⟩, ⟨hc, h7, h8, h3, h9, h10, h11, h12⟩⟩
end Lf

set_option Elab.async false
set_option linter.all false
set_option maxRecDepth 100000
set_option maxHeartbeats 4000000
/-! Errors of the program's own as values: made, read, asked, told. -/
namespace Lf
open PySem PySem.Spec PyProof.Rows L2

/-! ### made -/
/-- C(e, ..) as a value, C's own __init__ keeping sp -/
def tNew (C : Addr) (sp : Sp) (ta : TA) : TE := fun σ H Q => ta σ H fun vs H1 =>
  vs.length ≤ 1000 ∧ ∀ a, H1 a = none → sp (.ref a :: vs) (upd H1 a (exo a C none)) (fun v H2 => v = .non ∧ Q (.ref a) H2) E0
section
variable {X : Cx} {CX : CXT} {x : Str} {C fI : Addr} {k : Nat} {fd : FuncData} {ps : List Str} {sp : Sp} {e : Expr} {es : List Expr} {ta : TA} {p pos : Pos}
theorem pe_new (T : OexC X.K C) (iC : PySem.W.findIn X.K (.ref C) "__init__" = some (some (.ref fI)))
    (tI : PySem.W.typeIn X.K (.ref fI) = some (.type "function"))
    (F1 : FnOk X.prog X.w X.K X.mg X.base CX k fI fd ps sp) (hr : Room (k + 1) X.A) (hb : Binds X.K fd ps [])
    (hx : Passes CX X E0) (hg : Gl X x) (hm : X.mg x = some (.ref C)) (ha : PA X (e :: es) ta)
    (hdb : (x == ("__debug__" : Str)) = false := by decide +kernel)
    (he : starEach (e :: es) X.env = (false, eval e X.env) :: starEach es X.env := by rfl)
    (hpl : (backTo pos (starEach es X.env)).any (·.1) = false := by rfl) :
    PE X (.Call (.Name x p) (e :: es) [] pos) (tNew C sp ta) := by
  refine ⟨fun pins s σ H Q I h => ?_⟩
  obtain ⟨nm, q, N, bs, bm, sn, sub, ab, col, dd, k0, k1, k2, k3, k5, hC, hbm⟩ := T.cls
  refine wpAny_Call_Name_kw (ld_glob I hg hm ?_ hdb)
  refine PySem.W.callWith_K (h₀ := X.base) I.ok.mod.kin T.kC
    (thn (ha.run pos pins s σ H _ I h) fun us s1 hh => ?_) he hpl
  obtain ⟨vs, H1, I1, r1, hz, q1⟩ := hh
  refine ⟨I1.kIn, ?_⟩
  show wpAny _ _ (call (.ref C) us) _ _ _
  obtain ⟨hp, g, dr, tk, os⟩ := s1
  let a := hp.objs.size + 1
  have hsz : hp.objs.size ≤ a := Nat.le_succ _
  have hq := q1 a (I1.hok.fresh hsz)
  let hp' := (hp.push (PySem.W.kdv_tup us)).push (PySem.HandSPX.excO C hp.objs.size)
  have kk : ∀ b o, hp.get? b = some o → hp'.get? b = some o := fun b o z =>
    Heap.get?_push_of_some _ (Heap.get?_push_of_some _ z)
  have hget : ((hp.push (PySem.W.kdv_tup us)).push (PySem.HandSPX.excO C hp.objs.size)).get? (hp.objs.size + 1) =
    some (PySem.HandSPX.excO C hp.objs.size) := by heap_get
  have I2 : Inv X pins σ (upd H1 a (exo a C none)) ⟨hp', g, dr, tk, os⟩ :=
    I1.laid (t' := tk) (a := a) (o := exo a C none) (h' := hp') kk hsz (exo_ok (show hp'.get? a = _ from hget))
  have r2 : Vals (V.ref a :: vs) (Value.ref a :: us) := .cons rfl r1
  have hl : (Value.ref a :: us).length = ps.length := by
    have z := r2.length
    rw [F1.len _ _ _ _ hq] at z
    exact z.symm
  have hus : us.length ≤ sizeLine := by
    rw [← Paired.length r1, sizeLine_eq]
    omega
  have hb2 := hb ⟨hp', g, dr, tk, os⟩ (Value.ref a :: us) I2.kIn (by simpa using hl)
  rw [List.append_nil] at hb2
  refine wpAny_call (PySem.HandSPX.call_own F.excBase_ValueError (fun Y => PySem.HandSPX.refsVE_contains Y bm hbm) (I1.kIn _ _ hC)
    (PySem.W.looks_findIn I1.kIn iC) (fun self => PySem.W.bind_fn I1.kIn self tI) hus
    (codeAny_mono (F1.run _ X.stack _ _ ⟨Value.ref a :: us, []⟩ (Value.ref a :: us) _ _ E0 (hr.make C us []) (I2.env0.make C us []) hb2 r2 hq) fun r s' hq' => ?_))
  cases r with
  | error er => exact hx pins σ _ _ er s' I2 hq'
  | ok fl =>
    cases fl with
    | ret u =>
      obtain ⟨v, H2, os2, bare2, un2, hok2, rv, ev, q2⟩ := hq'
      subst ev
      exact ⟨rv, .ref a, H2, I2.call' (ch := []) os2 un2 hok2 bare2 (fun b z => nomatch z), rfl, q2⟩
    | next => exact False.elim hq'
    | brk => exact False.elim hq'
    | cont => exact False.elim hq'
end

/-! ### an error that stands -/
/-- at a an error of the class at C: its dict d, if it has one -/
def XAt (H : Hp) (a C : Addr) (d : Option Addr) : Prop := H a = some (exo a C d) ∨ (d = none ∧ H a = some (ExO (.ref C) a))
theorem XAt.obj {X : Cx} {pins : List (Addr × Obj)} {σ : L2.St} {H : Hp} {s : Shared} {a C : Addr} {d : Option Addr} (I : Inv X pins σ H s) (h : XAt H a C d) :
    ∃ oe vs, s.heap.get? a = some oe ∧ Zc (.ref C) d oe ∧ oe.data = .fields vs := by
  rcases h with h | ⟨rfl, h⟩
  · obtain ⟨t1, ho⟩ := exo_at I.hok h
    exact ⟨_, _, ho, ⟨rfl, rfl⟩, rfl⟩
  · obtain ⟨⟨oe, vs, ho, hz, hd, _⟩, _, _⟩ := I.hok a _ h
    exact ⟨oe, vs, ho, hz, hd⟩
theorem XAt.mono {H H' : Hp} {a C : Addr} {d : Option Addr} (h : XAt H a C d) (e : Same H H') : XAt H' a C d := by
  rcases h with h | ⟨z, h⟩
  · exact .inl (e _ _ h)
  · exact .inr ⟨z, e _ _ h⟩

/-! ### a field -/
def tXo (K : PySem.W.Frag) (f : Str) (te : TE) : TE := fun σ H Q => te σ H fun x H1 => ∃ (a C d : Addr) (fs : List (Str × V)) (v : V),
  x = .ref a ∧ XfC K C ∧ PySem.W.findIn K (.ref C) f = some none ∧ XAt H1 a C (some d) ∧ H1 d = some (exd d fs) ∧ fs.lookup f = some v ∧ Q v H1
theorem pe_xo {X : Cx} {e : Expr} {te : TE} {pos : Pos} {n : Str} (he : PE X e te)
    (hb : attributeBase e n X.env (eval e X.env) = eval e X.env := by rfl) : PE X (.Attribute e n pos) (tXo X.K n te) := by
  refine ⟨fun pins s σ H Q I h => ?_⟩
  refine attr_of hb (thn (he.run pins s σ H _ I h) fun u s1 hh => ?_)
  obtain ⟨x, H1, I1, rx, a, C, d, fs, v, ex, T, hno, ea, ed, l, q⟩ := hh
  subst ex
  obtain rfl : u = Value.ref a := rx
  obtain ⟨oe, vs, ho, hz, hd⟩ := ea.obj I1
  obtain ⟨mA, hns, hr⟩ := exd_at I1.hok ed
  obtain ⟨od, ho2, hl⟩ := lookIn_ns hns
  obtain ⟨u, hu, ru⟩ := RelO.some_of (v := v) (o := mA n) (by rw [← l]; exact hr n)
  have J : PySem.W.InstAt s1.heap a oe C (some od) := ⟨ho, hz.1, by unfold PySem.W.notCls; rw [hd] <;> rfl, by rw [hz.2]; exact ho2⟩
  exact HandSPX.exc_get I1.kIn J T.ga T.gg T.exC (PySem.W.findObj_own T.hdC hno rfl (by rw [hl, hu])) (handed_of ru)
    ⟨v, H1, I1.tok _, ru, q⟩

/-! ### isinstance -/
/-- its dict, if it has one, is an error's -/
def XDict (H : Hp) (d : Option Addr) : Prop := ∀ dx, d = some dx → ∃ fs, H dx = some (exd dx fs)
theorem XAt.inst {X : Cx} {pins : List (Addr × Obj)} {σ : L2.St} {H : Hp} {s : Shared} {a C : Addr} {d : Option Addr} (I : Inv X pins σ H s) (h : XAt H a C d) (hd : XDict H d) :
    ∃ ox od, PySem.W.InstAt s.heap a ox C od := by
  obtain ⟨oe, vs, ho, hz, hv⟩ := h.obj I
  have nc : PySem.W.notCls oe = true := by unfold PySem.W.notCls; rw [hv] <;> rfl
  cases d with
  | none => exact ⟨oe, none, ho, hz.1, nc, by rw [hz.2]; trivial⟩
  | some dx =>
    obtain ⟨fs, e⟩ := hd dx rfl
    obtain ⟨mA, hns, _⟩ := exd_at I.hok e
    obtain ⟨od, ho2, _⟩ := lookIn_ns hns
    exact ⟨oe, some od, ho, hz.1, nc, by rw [hz.2]; exact ho2⟩
def rIsX (K : PySem.W.Frag) : List V → Hp → VK → Prop := fun xs H Q => ∃ (a C : Addr) (d : Option Addr) (c : V) (cv : Value) (b : Bool),
  xs = [.ref a, c] ∧ ClsV c cv ∧ IsC K C ∧ XAt H a C d ∧ XDict H d ∧ PySem.W.kitOne K (.ref C) cv = some b ∧ Q (.bl b) H
theorem call_isX {X : Cx} : CallR X (.builtin "isinstance") (rIsX X.K) := by
  intro pins s σ H xs us Q I r h
  obtain ⟨a, C, d, c, cv, b, rfl, k, T, ha, hd, e, q⟩ := h
  obtain ⟨u1, u2, rfl, r1, r2⟩ := vals2 r
  obtain rfl := k.eq r2
  obtain rfl : u1 = Value.ref a := r1
  obtain ⟨ox, od, J⟩ := ha.inst I hd
  exact PySem.W.kia_one (PySem.W.kitx_exc (od := od) T.cl T.ga T.gg T.sb T.ca T.sg T.tk T.ob) I.kIn J e (fun z => nomatch z)
    fun tk => ⟨.bl b, H, I.tok tk, rfl, q⟩
def rIsXT (K : PySem.W.Frag) : List V → Hp → VK → Prop := fun xs H Q => ∃ (a C : Addr) (d : Option Addr) (tp : Addr) (cs : List V) (us : List Value) (b : Bool),
  xs = [.ref a, .ref tp] ∧ H tp = some (.tup cs) ∧ Paired ClsV cs us ∧ IsC K C ∧ XAt H a C d ∧ XDict H d ∧ PySem.W.kitAny K (.ref C) us = some b ∧ Q (.bl b) H
theorem call_isXT {X : Cx} : CallR X (.builtin "isinstance") (rIsXT X.K) := by
  intro pins s σ H xs us Q I r h
  obtain ⟨a, C, d, tp, cs, ws, b, rfl, htp, k, T, ha, hd, e, q⟩ := h
  obtain ⟨u1, u2, rfl, r1, r2⟩ := vals2 r
  obtain rfl : u1 = Value.ref a := r1
  obtain rfl : u2 = Value.ref tp := r2
  obtain ⟨ox, od, J⟩ := ha.inst I hd
  obtain ⟨_, its, rv, ⟨oc, dd, dt, sl⟩, h1, h2, n, h3⟩ := (show ObjOk X.prog X.w H s.heap tp (.tup cs) from I.hok tp _ htp)
  obtain rfl := ClsV.all k rv
  dsimp only at h2 h3
  subst h2 h3
  exact PySem.W.kia_tup (PySem.W.kitx_exc (od := od) T.cl T.ga T.gg T.sb T.ca T.sg T.tk T.ob) I.kIn J h1 e (fun z => nomatch z)
    fun tk => ⟨.bl b, H, I.tok tk, rfl, q⟩

/-! ### told() -/
/-- e.m() of an error e, by what stands of its class -/
def tTold (X : Cx) (m : Str) (te : TE) : TE := fun σ H Q => te σ H fun x H1 => ∃ (a C f : Addr) (d : Option Addr) (fd : FuncData) (sp : Sp),
  x = .ref a ∧ IsC X.K C ∧ Meth X.K C m f ∧ XAt H1 a C d ∧ (∀ dx, d = some dx → ∃ fs, H1 dx = some (exd dx fs) ∧ fs.lookup m = none) ∧
    FnOk X.prog X.w X.K X.mg X.base CX0 1 f fd ["self"] sp ∧ Binds X.K fd ["self"] [] ∧ sp [.ref a] H1 Q E0
theorem pe_told {X : Cx} {o : Expr} {m : Str} {te : TE} {pos apos : Pos} {pl : Sem Bool} (he : PE X o te) (hr : Room 1 X.A)
    (ht : eval (.Call (.Attribute o m apos) [] [] pos) X.env = (do
      let ov ← eval o X.env
      standAt apos.atName
      let (f, first) ← holding [ov] (getMethod ov m pl)
      callWith pos f first (backTo pos (starEach [] X.env)) (backToKw pos (keywordEach [] X.env))) := by rfl) :
    PE X (.Call (.Attribute o m apos) [] [] pos) (tTold X m te) := by
  refine ⟨fun pins s σ H Q I h => ?_⟩
  refine PySem.W.methodCall_KW (pl := pl) (thn (he.run pins s σ H _ I h) fun u s1 hh => ?_) ht
  obtain ⟨x, H1, I1, rx, a, C, f, d, fd, sp, rfl, T, M, ha, hd, FO, hb, q⟩ := hh
  obtain rfl : u = Value.ref a := rx
  obtain ⟨mm, fr⟩ := I1.fr
  obtain ⟨oe, vs, ho, hz, hv⟩ := ha.obj I1
  have nc : PySem.W.notCls oe = true := by unfold PySem.W.notCls; rw [hv] <;> rfl
  have go : wpAny (model X.prog X.w) X.A (callWith pos (Value.ref f) [Value.ref a] (backTo pos (starEach [] X.env)) []) (EP X pins σ Q) X.xe s1 :=
    PySem.W.callWith_K0 (first := [.ref a]) I1.kIn M.kp (run_fn (us := [.ref a]) (vs := [.ref a]) FO hr hb .nil pass0 I1 (.cons rfl .nil) q)
  cases d with
  | none =>
    have J : PySem.W.InstAt s1.heap a oe C none := ⟨ho, hz.1, nc, by rw [hz.2]; trivial⟩
    exact PySem.W.method_exc fr I1.ok.mod.kin J T.ga T.gg M.at_ M.fn rfl go
  | some dx =>
    obtain ⟨fs, e, hl⟩ := hd dx rfl
    obtain ⟨mA, hns, rel⟩ := exd_at I1.hok e
    obtain ⟨od, ho2, hk⟩ := lookIn_ns hns
    have J : PySem.W.InstAt s1.heap a oe C (some od) := ⟨ho, hz.1, nc, by rw [hz.2]; exact ho2⟩
    have hm : mA m = none := by
      have z := rel m
      rw [hl] at z
      cases y : mA m with
      | none => rfl
      | some v => rw [y] at z; exact z.elim
    exact PySem.W.method_exc fr I1.ok.mod.kin J T.ga T.gg M.at_ M.fn (by show (PySem.W.lookIn m od).map _ = _; rw [hk, hm]; rfl) go

/-! ### made without own __init__, of nothing -/
theorem pe_bare {X : Cx} {C : Addr} {bmB : List Value} {B newId initId : String} {x : Str} {p pos : Pos} (F : ExcBaseFacts B newId initId bmB)
    (q : PySem.W.excIn X.K C bmB newId = true) (gC : X.mg x = some (.ref C)) (kC : PySem.W.keepIn X.K (.ref C) = true) (hg : Gl X x)
    (hdb : (x == ("__debug__" : Str)) = false := by decide +kernel) :
    PE X (.Call (.Name x p) [] [] pos) (fun _ H Q => ∀ a, H a = none → Q (.ref a) (upd H a (ExO (.ref C) a))) := by
  refine ⟨fun pins s σ H Q I h => ?_⟩
  refine wpAny_Call_Name_kw (ld_glob I hg gC ?_ hdb)
  refine PySem.W.callWith_K0 I.kIn kC ?_
  show wpAny _ _ (call (.ref C) []) _ _ _
  obtain ⟨bm, N, nm, qn, bs, hdct, sn, sub, ab, col, dd, k0, k1, k2, k3, k5, mN, hC, hN, hni, T⟩ := exc_obj I.kIn q
  refine wpAny_call_exc_subT F T hC hN hni (fun h' a hm => ?_) (Nat.zero_le _)
  have hn : H a = none := I.hok.gone hm.new
  obtain ⟨t, ht, _, _⟩ := hm.there
  exact ⟨.ref a, _, I.laidN hm.keeps hm.new hn (exO_ok ht ⟨rfl, rfl⟩ rfl rfl rfl (show 4 < 6 by decide)), rfl, h a hn⟩

/-! ### by a weaker reading -/
theorem PE.imp {X : Cx} {e : Expr} {t t' : TE} (h : PE X e t) (f : ∀ σ H Q, t' σ H Q → t σ H Q) : PE X e t' := ⟨fun pins s σ H Q I q => h.run pins s σ H Q I (f σ H Q q)⟩
theorem PSs.imp {X : Cx} {e : List Stmt} {t t' : TS} (h : PSs X e t) (f : ∀ D σ H, t' D σ H → t D σ H) : PSs X e t' := ⟨fun pins s σ H D I q => h.run pins s σ H D I (f D σ H q)⟩
/-- a reading that may be weakened -/
def up (t : TE) : TE := fun σ H Q => ∃ Q0, t σ H Q0 ∧ ∀ v H', Q0 v H' → Q v H'
theorem PE.up {X : Cx} {e : Expr} {t : TE} (h : PE X e t) : PE X e (Lf.up t) := ⟨fun pins s σ H Q I q => by
  obtain ⟨Q0, q, k⟩ := q
  exact thn (h.run pins s σ H Q0 I q) fun u s1 r => by
    obtain ⟨v, H', I', rv, z⟩ := r
    exact ⟨v, H', I', rv, k v H' z⟩⟩
/-- a class (or another thing) of the module by its name -/
theorem pe_cl {X : Cx} {x : Str} {a : Addr} {pos : Pos} (hg : Gl X x) (hm : X.mg x = some (.ref a)) (hd : (x == ("__debug__" : Str)) = false := by decide +kernel) : PE X (.Name x pos) (tC (.ref a)) := pe_glob hg hm rfl hd
/-- an int of the module by its name -/
theorem pe_gint {X : Cx} {x : Str} {i : Int} {t : Tok} {pos : Pos} (hg : Gl X x) (hm : X.mg x = some (.int i t)) (hd : (x == ("__debug__" : Str)) = false := by decide +kernel) : PE X (.Name x pos) (tC (.int i)) := pe_glob hg hm ⟨t, rfl⟩ hd
theorem same_upd {H : Hp} {p : Addr} {o : HO} (n : H p = none) : Same H (upd H p o) := fun b u e => by rw [upd_ne (ne_of_none e n)]; exact e

/-! ### a def of the module, called by its name -/
structure Def (P : Program) (w : World) (K : PySem.W.Frag) (mg : Str → Option Value) (base : Heap) (CX : CXT) (k : Nat) (x : Str) (ps : List Str) (sp : Sp) : Prop where
  ex : ∃ f fd, mg x = some (.ref f) ∧ PySem.W.keepIn K (.ref f) = true ∧ FnOk P w K mg base CX k f fd ps sp ∧ Binds K fd ps []
section
variable {X : Cx} {CX : CXT} {k : Nat} {x : Str} {ps : List Str} {sp : Sp} {E : XK} {e : Expr} {es : List Expr} {t : TA} {p pos : Pos}
theorem pe_def (D : Def X.prog X.w X.K X.mg X.base CX k x ps sp) (hr : Room k X.A) (hx : Passes CX X E) (hg : Gl X x) (ha : PA X (e :: es) t)
    (hdb : (x == ("__debug__" : Str)) = false := by decide +kernel) (he : starEach (e :: es) X.env = (false, eval e X.env) :: starEach es X.env := by rfl)
    (hpl : (backTo pos (starEach es X.env)).any (·.1) = false := by rfl) : PE X (.Call (.Name x p) (e :: es) [] pos) (fun σ H Q => t σ H fun vs H1 => sp vs H1 Q E) := by
  obtain ⟨f, fd, g, kp, F, b⟩ := D.ex
  exact PE.imp (pe_call F hr hg g kp b .nil hx ha hdb he hpl) fun σ H Q h => by
    show t σ H fun vs H1 => sp (vs ++ []) H1 Q E
    simpa only [List.append_nil] using h
theorem pe_def0 (D : Def X.prog X.w X.K X.mg X.base CX k x ps sp) (hr : Room k X.A) (hx : Passes CX X E) (hg : Gl X x)
    (hdb : (x == ("__debug__" : Str)) = false := by decide +kernel) : PE X (.Call (.Name x p) [] [] pos) (fun _ H Q => sp [] H Q E) := by
  obtain ⟨f, fd, g, kp, F, b⟩ := D.ex
  exact pe_call0 F hr hg g kp b .nil hx hdb
end

/-! ### told, __init__ -/
def spTold (t : Str) : Sp := fun vs H Q _ => ∃ v, vs = [v] ∧ Q (.str t) H
def spIni1 (C : Addr) (f : Str) : Sp := fun vs H Q _ => ∃ a v, vs = [.ref a, v] ∧ H a = some (exo a C none) ∧
  ∀ d, H d = none → d ≠ a → Q .non (upd (upd H d (exd d [(f, v)])) a (exo a C (some d)))
def spIni2 (C : Addr) (f g : Str) : Sp := fun vs H Q _ => ∃ a v u, vs = [.ref a, v, u] ∧ H a = some (exo a C none) ∧
  ∀ d, H d = none → d ≠ a → Q .non (upd (upd (upd H d (exd d [(f, v)])) a (exo a C (some d))) d (exd d [(g, u), (f, v)]))
section
variable {P : Program} {w : World} {K : PySem.W.Frag} {mg : Str → Option Value} {base : Heap} {C f : Addr} {fd : FuncData} {q : Str} {a : Arguments} {sc : Scope}
theorem vis_of {N ps : List Str} (S : FnScope N ps sc) {x : Str} (h : x ∈ ps) : Vis sc x := by
  rcases S.par x h with e | e
  · exact .inl e
  · exact .inr (.inl e)
theorem told_ok {t : Str} {j : Nat} {p p2 : Pos} (F : FunD K "told" q a [.Return (some (.Constant (.str t) j p)) p2] sc [] [] f fd) (S : FnScope ["self"] ["self"] sc) :
    FnOk P w K mg base CX0 1 f fd ["self"] (spTold t) := by
  refine F.ok S (fun vs H Q E h => ?_) (fun cdv A outer s H vs Q E hr h => ⟨_, PSs.nox (pss_one (ps_ret pe_str)), ?_⟩)
  · obtain ⟨v, rfl, _⟩ := h
    rfl
  · obtain ⟨v, rfl, k⟩ := h
    exact k
theorem ini1_ok {fl : Str} {p1 p2 p3 p4 : Pos} (T : OexC K C) (no : PySem.W.findIn K (.ref C) fl = some none)
    (F : FunD K "__init__" q a [.Assign [.Attribute (.Name "self" p1) fl p2] (.Name fl p3) p4] sc [] [] f fd) (S : FnScope ["self", fl] ["self", fl] sc)
    (d1 : (fl == ("__debug__" : Str)) = false := by decide +kernel) (d2 : (fl == ("__classdict__" : Str)) = false := by decide +kernel) :
    FnOk P w K mg base CX0 1 f fd ["self", fl] (spIni1 C fl) := by
  refine F.ok S (fun vs H Q E h => ?_) (fun cdv A outer s H vs Q E hr h => ⟨_, PSs.nox (pss_one (ps_ost (pe_var (i := 0) rfl (vis_of S (by simp))) (pe_var (i := 1) rfl (vis_of S (by simp)) d1 d2))), ?_⟩)
  · obtain ⟨a, v, rfl, _⟩ := h
    rfl
  · obtain ⟨a, v, rfl, e, k⟩ := h
    exact ⟨_, rfl, _, rfl, a, C, rfl, T, no, .inl ⟨e, fun dx n ne => k dx n ne⟩⟩
theorem ini2_ok {fl gl : Str} {p1 p2 p3 p4 q1 q2 q3 q4 : Pos} (T : OexC K C) (no : PySem.W.findIn K (.ref C) fl = some none) (no2 : PySem.W.findIn K (.ref C) gl = some none)
    (F : FunD K "__init__" q a [.Assign [.Attribute (.Name "self" p1) fl p2] (.Name fl p3) p4, .Assign [.Attribute (.Name "self" q1) gl q2] (.Name gl q3) q4] sc [] [] f fd) (S : FnScope ["self", fl, gl] ["self", fl, gl] sc)
    (d1 : (fl == ("__debug__" : Str)) = false := by decide +kernel) (d2 : (fl == ("__classdict__" : Str)) = false := by decide +kernel)
    (d3 : (gl == ("__debug__" : Str)) = false := by decide +kernel) (d4 : (gl == ("__classdict__" : Str)) = false := by decide +kernel) :
    FnOk P w K mg base CX0 1 f fd ["self", fl, gl] (spIni2 C fl gl) := by
  refine F.ok S (fun vs H Q E h => ?_) (fun cdv A outer s H vs Q E hr h => ⟨_, PSs.nox (pss_cons (ps_ost (pe_var (i := 0) rfl (vis_of S (by simp))) (pe_var (i := 1) rfl (vis_of S (by simp)) d1 d2))
    (pss_one (ps_ost (pe_var (i := 0) rfl (vis_of S (by simp))) (pe_var (i := 2) rfl (vis_of S (by simp)) d3 d4)))), ?_⟩)
  · obtain ⟨a, v, u, rfl, _⟩ := h
    rfl
  · obtain ⟨a, v, u, rfl, e, k⟩ := h
    exact ⟨_, rfl, _, rfl, a, C, rfl, T, no, .inl ⟨e, fun dx n ne => ⟨_, rfl, _, rfl, a, C, rfl, T, no2, .inr ⟨dx, _, upd_same, by rw [upd_ne ne]; exact upd_same, (by show 1 ≤ 900; decide), k dx n ne⟩⟩⟩⟩
end

/-! ### an error class with all that is told of it -/
section
variable (P : Program) (w : World) (K : PySem.W.Frag) (mg : Str → Option Value) (base : Heap)
structure Tells (C : Addr) (t : Str) : Prop where
  ex : ∃ f fd, Meth K C "told" f ∧ FnOk P w K mg base CX0 1 f fd ["self"] (spTold t) ∧ Binds K fd ["self"] []
/-- the class x, made of one thing, its field -/
structure Err1 (x fl t : Str) : Prop where
  g : mg x = some (.ref (He.ga K x))
  c : ErrC K (He.ga K x)
  no : PySem.W.findIn K (.ref (He.ga K x)) fl = some none
  tl : Tells P w K mg base (He.ga K x) t
  ini : ∃ fI fd, PySem.W.findIn K (.ref (He.ga K x)) "__init__" = some (some (.ref fI)) ∧ PySem.W.typeIn K (.ref fI) = some (.type "function") ∧
    FnOk P w K mg base CX0 1 fI fd ["self", fl] (spIni1 (He.ga K x) fl) ∧ Binds K fd ["self", fl] []
structure Err2 (x fl gl t : Str) : Prop where
  g : mg x = some (.ref (He.ga K x))
  c : ErrC K (He.ga K x)
  no : PySem.W.findIn K (.ref (He.ga K x)) fl = some none
  no2 : PySem.W.findIn K (.ref (He.ga K x)) gl = some none
  tl : Tells P w K mg base (He.ga K x) t
  ini : ∃ fI fd, PySem.W.findIn K (.ref (He.ga K x)) "__init__" = some (some (.ref fI)) ∧ PySem.W.typeIn K (.ref fI) = some (.type "function") ∧
    FnOk P w K mg base CX0 1 fI fd ["self", fl, gl] (spIni2 (He.ga K x) fl gl) ∧ Binds K fd ["self", fl, gl] []
/-- made of nothing -/
structure Err0 (x t : Str) : Prop where
  g : mg x = some (.ref (He.ga K x))
  c : ErrC K (He.ga K x)
  ec : PySem.W.excIn K (He.ga K x) He.veBase "ValueError.__new__" = true
  tl : Tells P w K mg base (He.ga K x) t
end
section
variable {X : Cx} {x fl gl t : Str} {e e2 : Expr} {ta tb : TE} {p pos : Pos}
theorem pe_err1 (E : Err1 X.prog X.w X.K X.mg X.base x fl t) (hr : Room 2 X.A) (hg : Gl X x) (ha : PE X e ta) (hdb : (x == ("__debug__" : Str)) = false := by decide +kernel)
    (hs : starEach [e] X.env = (false, eval e X.env) :: starEach [] X.env := by rfl) :
    PE X (.Call (.Name x p) [e] [] pos) (fun σ H Q => ta σ H fun v H1 => ∀ a d H', H1 a = none → H1 d = none → Same H1 H' → XAt H' a (He.ga X.K x) (some d) → H' d = some (exd d [(fl, v)]) → Q (.ref a) H') := by
  obtain ⟨fI, fd, i1, i2, F, b⟩ := E.ini
  refine PE.imp (pe_new E.c.o i1 i2 F hr b pass0 hg E.g (pa_cons (PE.up ha) pa_nil hs) hdb hs rfl) fun σ H Q h => ?_
  refine ⟨_, h, fun v H1 k => ⟨(by show 1 ≤ 1000; decide), fun a na => ⟨a, v, rfl, upd_same, fun d nd ne => ?_⟩⟩⟩
  have nd1 : H1 d = none := by rw [upd_ne ne] at nd; exact nd
  refine ⟨rfl, k a d _ na nd1 (fun b o q => ?_) (.inl upd_same) (by rw [upd_ne ne]; exact upd_same)⟩
  rw [upd_ne (ne_of_none q na), upd_ne (ne_of_none q nd1), upd_ne (ne_of_none q na)]
  exact q
theorem pe_err2 (E : Err2 X.prog X.w X.K X.mg X.base x fl gl t) (hr : Room 2 X.A) (hg : Gl X x) (ha : PE X e ta) (hb : PE X e2 tb) (hdb : (x == ("__debug__" : Str)) = false := by decide +kernel)
    (hs : starEach [e, e2] X.env = (false, eval e X.env) :: starEach [e2] X.env := by rfl) (hs2 : starEach [e2] X.env = (false, eval e2 X.env) :: starEach [] X.env := by rfl)
    (hp : (backTo pos (starEach [e2] X.env)).any (·.1) = false := by rfl) :
    PE X (.Call (.Name x p) [e, e2] [] pos) (fun σ H Q => ta σ H fun v H0 => Lf.up tb σ H0 fun u H1 => ∀ a d H', H1 a = none → H1 d = none → Same H1 H' → XAt H' a (He.ga X.K x) (some d) → H' d = some (exd d [(gl, u), (fl, v)]) → Q (.ref a) H') := by
  obtain ⟨fI, fd, i1, i2, F, b⟩ := E.ini
  refine PE.imp (pe_new E.c.o i1 i2 F hr b pass0 hg E.g (pa_cons (PE.up ha) (pa_cons (PE.up hb) pa_nil hs2) hs) hdb hs hp) fun σ H Q h => ?_
  refine ⟨_, h, fun v H0 h2 => ?_⟩
  obtain ⟨Q0, h3, h4⟩ := h2
  refine ⟨Q0, h3, fun u H1 z => ?_⟩
  have k := h4 u H1 z
  refine ⟨(by show 2 ≤ 1000; decide), fun a na => ⟨a, v, u, rfl, upd_same, fun d nd ne => ?_⟩⟩
  have nd1 : H1 d = none := by rw [upd_ne ne] at nd; exact nd
  refine ⟨rfl, k a d _ na nd1 (fun b o q => ?_) (.inl (by rw [upd_ne ne.symm]; exact upd_same)) upd_same⟩
  rw [upd_ne (ne_of_none q nd1), upd_ne (ne_of_none q na), upd_ne (ne_of_none q nd1), upd_ne (ne_of_none q na)]
  exact q
theorem pe_err0 (E : Err0 X.prog X.w X.K X.mg X.base x t) (hg : Gl X x) (hdb : (x == ("__debug__" : Str)) = false := by decide +kernel) :
    PE X (.Call (.Name x p) [] [] pos) (fun _ H Q => ∀ a H', H a = none → Same H H' → XAt H' a (He.ga X.K x) none → Q (.ref a) H') :=
  PE.imp (pe_bare F.excBase_ValueError E.ec E.g E.c.o.kC hg hdb) fun σ H Q h a na => h a _ na (same_upd na) (.inr ⟨rfl, upd_same⟩)
end
end Lf

set_option Elab.async false
set_option linter.all false
set_option maxRecDepth 100000
set_option maxHeartbeats 4000000
/-! set(xs) of distinct texts, however many; how many there are. -/
namespace Lf
open PySem PySem.Spec PyProof.Rows L2
abbrev HasS (P : Program) (w : World) (h : Heap) (a : Addr) (xs : List Str) (i : Nat) : Prop := h.SetOf (PySem.strKind P w) a (fun y => (xs.take i).any (· == y)) i
theorem take_next {xs : List Str} (nd : xs.Nodup) {i : Nat} (hi : i < xs.length) :
    (xs.take i).any (· == xs.getD i Str.empty) = false ∧ ∀ y, ((xs.take i).any (· == y) || decide (y = xs.getD i Str.empty)) = (xs.take (i + 1)).any (· == y) := by
  have eg : xs.getD i Str.empty = xs[i] := by simp [List.getD, hi]
  rw [eg]
  have split : xs.take (i + 1) = xs.take i ++ [xs[i]] := by simp
  constructor
  · rw [List.any_eq_false]
    intro y hy hb
    have e : y = xs[i] := by simpa using hb
    subst e
    obtain ⟨j, hj, ej⟩ := List.mem_iff_getElem.mp hy
    rw [List.length_take] at hj
    have ej2 : xs[j] = xs[i] := by rw [← ej, List.getElem_take]
    have ji : j < i := by omega
    exact absurd ej2 (List.pairwise_iff_getElem.mp nd j i (by omega) hi ji)
  · intro y
    rw [split, List.any_append]
    congr 1
    by_cases e : y = xs[i]
    · subst e; simp
    · have q : (xs[i] == y) = false := beq_eq_false_iff_ne.mpr fun z => e z.symm
      simp [e, q]
section
variable {P : Program} {w : World} {A : Around} {R : Result → Shared → Prop} {It : Addr} {fp wr : List Addr} {G : Array GenState → Array GenState → Prop} {n : Nat} {Pv : Nat → Value → Prop} {Sv : Nat → Shared → Prop}
/-- the loop that fills a set: distinct texts -/
theorem fillS (W : WalksS P w A.in1 It fp wr G n Pv Sv) {a : Addr} (off : a ∉ fp) {xs : List Str} (nd : xs.Nodup) (len : xs.length = n) (few : n + 1 < scanBound)
    (read : ∀ i v, Pv i v → ∃ t, v = .str (xs.getD i Str.empty) t) : ∀ (m i : Nat) (s : Shared), i + m = n → Sv i s → HasS P w s.heap a xs i →
      (∀ s', Moved (a :: wr) G s s' → HasS P w s'.heap a xs n → R (.ok (.ret .none)) s') →
      codeAny (model P w) A (.builtin "set.update.loop" ⟨[.ref a, .ref It], []⟩) R s := by
  have offw : a ∉ wr := fun z => off (W.sub _ z)
  have keep : ∀ {s s' : Shared} {i : Nat}, Moved wr G s s' → HasS P w s.heap a xs i → HasS P w s'.heap a xs i := fun mv hs => by
    obtain ⟨o, es, ep, t, ho, r⟩ := hs
    exact ⟨o, es, ep, t, mv.heap a _ offw ho, r⟩
  intro m
  induction m with
  | zero =>
    intro i s e st hs fin
    obtain rfl : i = n := by omega
    refine codeAny_builtin PyProof.Rows.F.entry_set_update_loop ?_
    rw [Around.under_plainId PyProof.Rows.F.plain_set_update_loop _]
    show wpAny _ _ (pyNext (.ref It) >>= _) _ _ _
    exact wpAny_bind (W.done s _ _ st fun s' mv => wpAny_pure (fin s' (mv.mono fun b hb => List.mem_cons_of_mem _ hb) (keep mv hs)))
  | succ m ih =>
    intro i s e st hs fin
    have hi : i < n := by omega
    refine codeAny_builtin PyProof.Rows.F.entry_set_update_loop ?_
    rw [Around.under_plainId PyProof.Rows.F.plain_set_update_loop _]
    show wpAny _ _ (pyNext (.ref It) >>= _) _ _ _
    refine wpAny_bind (W.item i s _ _ hi st fun v s' pv st' mv => ?_)
    obtain ⟨t, rfl⟩ := read i v pv
    have hs' := keep mv hs
    obtain ⟨new, grow⟩ := take_next nd (show i < xs.length by omega)
    show wpAny _ _ (holding [Value.str _ t] (setAdd a (.str _ t)) >>= _) _ _ _
    refine wpAny_bind (wpAny_holding ?_)
    unfold setAdd
    refine wpAny_holding (wpAny_bind ((PySem.strKind P w).pyHash (strKind_is _ _ _ _) ?_))
    refine wpAny_setAddHashed_of (knd := PySem.strKind P w) (s := { s' with toks := s'.toks + 1 }) (strKind_is _ _ _ _) rfl hs' (by omega) fun h' sb hs2 => ?_
    have hs3 : HasS P w h' a xs (i + 1) := SetOf_congr hs2 grow (by show (if (xs.take i).any (· == xs.getD i Str.empty) = true then i else i + 1) = i + 1; rw [new]; rfl)
    refine wpAny_pure ⟨plainId_quiet PyProof.Rows.F.plain_set_update_loop _, ih (i + 1) _ (by omega) (W.frame _ s' _ _ st' (Nat.le_succ _) fun b hb o z => ?_) hs3 fun s2 mv2 q => fin s2 ?_ q⟩
    · rw [sb.2 b fun y => off (y ▸ hb)]
      exact z
    · refine Moved.trans W.gtrans ((mv.mono fun b hb => List.mem_cons_of_mem _ hb).then_heap (Nat.le_succ _) fun b o hb z => ?_) mv2
      rw [sb.2 b fun y => hb (by rw [y]; exact List.mem_cons_self)]
      exact z
end
/-- an empty set, newly laid -/
abbrev emptySet (led : Bool) : Obj := { cls := .type "set", dict := none, data := .set #[] 0 (.fresh 0 0 led) }
section
variable {P : Program} {w : World} {A : Around} {E : Value → Shared → Prop} {s : Shared} {l : Addr} {its : Array Value} {xs : List Str}
/-- what is wanted of it: a set at the next place, of these texts; all else as it was -/
abbrev SetMade (P : Program) (w : World) (s : Shared) (xs : List Str) (s' : Shared) : Prop :=
  ∃ h' tk, s' = { s with heap := h', toks := tk } ∧ HasS P w h' s.heap.objs.size xs xs.length ∧ ∀ b o, b < s.heap.objs.size → s.heap.get? b = some o → h'.get? b = some o
theorem setInit {led : Bool} {Q : Fin → Shared → Prop} (calm : A.handled = none) (hl : s.heap.IsList l its) (ht : StrsAre its.toList xs) (nd : xs.Nodup) (few : xs.length + 1 < scanBound)
    (h : ∀ s', SetMade P w s xs s' → Q (.done (.ret .none)) s') :
    wpAny (model P w) A (Builtin.«set.__init__» ⟨[.ref s.heap.objs.size, .ref l], []⟩) Q E { s with heap := s.heap.push (emptySet led) } := by
  obtain ⟨⟨oc, od, odt, osl⟩, hol, hcl, nl, hdl⟩ := hl
  dsimp only at hcl hdl
  subst hcl hdl
  have hS : (s.heap.push (emptySet led)).get? s.heap.objs.size = some (emptySet led) := Heap.get?_push_size _ rfl
  have hT : Shared.TypeIs { s with heap := s.heap.push (emptySet led) } (.ref s.heap.objs.size) "set" := ⟨_, hS, rfl⟩
  have hol' : (s.heap.push (emptySet led)).get? l = some { cls := .type "list", dict := od, data := .seq its nl, slots := osl } := Heap.get?_push_of_some _ hol
  have f1 := F.sub_list_set
  have f2 := F.sub_list_frozenset
  have f3 : (Value.type "list" == Value.type "dict") = false := by decide
  have hl1 : (s.heap.push (emptySet led)).IsList l its := ⟨_, hol', rfl, nl, rfl⟩
  unfold Builtin.«set.__init__» noKeywords Builtin.Frozenset.updateFrom
  generalize hPI : pyIter = PI
  wp_walk
  subst hPI
  refine wpAny_pyIter_list hl1 (wpAny_bind (wpAny_runValue ?_))
  have lS : l < s.heap.objs.size := Heap.lt_size hol
  have calm3 : A.in1.handled = none := by simp [calm]
  have nI : l ≠ (s.heap.push (emptySet led)).objs.size := by
    rw [Heap.size_push]
    exact Nat.ne_of_lt (Nat.lt_succ_of_lt lS)
  have off : s.heap.objs.size ∉ [(s.heap.push (emptySet led)).objs.size, l] := by
    rw [Heap.size_push]
    simp only [List.mem_cons, List.not_mem_nil, or_false, not_or]
    exact ⟨Nat.ne_of_lt (Nat.lt_succ_self _), Nat.ne_of_gt lS⟩
  have sz : xs.length = its.size := by rw [← StrsAre.len_eq ht, Array.length_toList]
  refine fillS ((Walks.list calm3 _ l nI its).toS) off nd sz (by omega) (fun i v hv => SS.strs_at ht i v (by rw [Array.getElem?_toList]; exact hv)) its.size 0 _ (Nat.zero_add _) ?_ ?_ fun s' mv q => ?_
  · exact ⟨⟨_, Heap.get?_push_size _ rfl, rfl, rfl⟩, hl1.push _⟩
  · exact SetOf_congr ((setObjOf_fresh (knd := PySem.strKind P w) led).setOf (Heap.get?_push_of_some _ hS) (by unfold scanBound; omega)) (fun _ => rfl) rfl
  · obtain ⟨h', g', d', tk', os'⟩ := s'
    obtain rfl : g' = s.gens := mv.gens
    obtain rfl : d' = s.drawn := mv.drawn
    obtain rfl : os' = s.os := mv.os
    show wpAny _ _ _ _ _ _
    refine wpAny_pure ?_
    show wpAny _ _ (ret Value.none) _ _ _
    refine wpAny_pure (h _ ⟨h', tk', rfl, by rw [sz]; exact q, fun b o hb z => mv.heap b o ?_ (Heap.get?_push_of_some _ (Heap.get?_push_of_some _ z))⟩)
    simp only [List.mem_cons, List.not_mem_nil, or_false, not_or]
    rw [Heap.size_push]
    exact ⟨Nat.ne_of_lt hb, Nat.ne_of_lt (Nat.lt_succ_of_lt hb)⟩
theorem setOfTexts {Q : Value → Shared → Prop} (calm : A.handled = none) (hl : s.heap.IsList l its) (ht : StrsAre its.toList xs) (nd : xs.Nodup) (few : xs.length + 1 < scanBound)
    (h : ∀ s', SetMade P w s xs s' → Q (.ref s.heap.objs.size) s') : wpAny (model P w) A (call (.type "set") [.ref l]) Q E s := by
  obtain ⟨c, tl, mro⟩ := F.called_set.mro
  have g1 := F.called_set.made
  have g2 := F.called_set.sub
  refine wpAny_call (codeAny_of_tree ?_)
  show wpAny _ _ (callAny (.type "set") _) _ _ _
  refine wpAny_pure ⟨Code.quiet_builtin _ (by decide +kernel), codeAny_builtin F.entry_type_call ?_⟩
  rw [Around.under_plain (weight_type_call_type "set" [.ref l] []) rfl]
  have g3 := F.called_set.notType
  have g4 := F.called_set.canCreate
  have g5 := F.typeCall_set_1 (.ref l)
  repeat (any_goals (first | assumption | wp_step))
  refine codeAny_mono (code_set_new_1 (.ref l) (E := E) (Q₁ := fun o s1 => ∃ led : Bool, o = .ref s.heap.objs.size ∧ s1 = { s with heap := s.heap.push (emptySet led) }) fun led => ⟨led, rfl, rfl⟩) fun r s1 hr => ?_
  cases r with
  | error e => exact hr
  | ok fl =>
    cases fl with
    | ret o =>
      obtain ⟨led, rfl, rfl⟩ := hr
      have hT : Shared.TypeIs { s with heap := s.heap.push (emptySet led) } (.ref s.heap.objs.size) "set" := ⟨_, Heap.get?_push_size _ rfl, rfl⟩
      have g6 := F.called_set.init.lookup
      have g7 := F.called_set.init.bind (.ref s.heap.objs.size)
      repeat (any_goals (first | assumption | wp_step))
      refine codeAny_mono (codeAny_call_builtin (R := wants (fun r s2 => r = .none ∧ SetMade P w s xs s2) E) F.called_set.init.plain F.entry_set_init (check_set_init_1 hT (setInit (by simp [calm]) hl ht nd few fun s2 q => ⟨rfl, q⟩))) fun r2 s2 hr2 => ?_
      cases r2 with
      | error e => exact hr2
      | ok f2 =>
        cases f2 with
        | ret v =>
          obtain ⟨rfl, q⟩ := hr2
          repeat (any_goals (first | assumption | wp_step))
          exact h _ q
        | _ => exact hr2.elim
    | _ => exact hr.elim
end
/-- len(set(xs)), xs a list of distinct texts -/
def tCount (K : PySem.W.Frag) (ta : TE) : TE := fun σ H Q => ta σ H fun x H1 => ∃ (l : Addr) (xs : List Str), x = .ref l ∧ SqL K H1 l (xs.map V.str) ∧ xs.Nodup ∧ xs.length ≤ 4000 ∧ Q (.int xs.length) H1
theorem pe_count {X : Cx} {a : Expr} {ta : TE} {p p2 q pos : Pos} (hc : X.calm = true) (hg : Gl X "len") (hm : X.mg "len" = none) (hg2 : Gl X "set") (hm2 : X.mg "set" = none) (ha : PE X a ta)
    (na : starEach [a] X.env = (false, eval a X.env) :: starEach [] X.env := by rfl) : PE X (.Call (.Name "len" p) [.Call (.Name "set" p2) [a] [] q] [] pos) (tCount X.K ta) := by
  refine ⟨fun pins s σ H Q I h => ?_⟩
  refine Call_ (ld_blt I hg hm boot_len (PyProof.Rows.callWith_builtin1 (PyProof.Rows.args_cons ?_ rfl) rfl rfl))
  refine Call_ (ld_blt I hg2 hm2 boot_set (PyProof.Rows.callWith_type1 (PyProof.Rows.args_cons (thn (ha.run pins s σ H _ I h) fun v s1 hh => PyProof.Rows.args_nil ?_) na) na rfl))
  obtain ⟨x, H1, I1, r1, l, xs, rfl, hq, nd, few, q1⟩ := hh
  cases r1
  obtain ⟨its, r, pl, hz⟩ := I1.list hq
  refine setOfTexts (I1.ok.hd hc) pl.isList (by simpa using strsAre_of r) nd (by unfold scanBound; omega) fun s' hs => PyProof.Rows.args_nil ?_
  obtain ⟨h', tk, rfl, ⟨o, es, ep, t, ho, hex, hd, _, _, _, hf, hn⟩, hk⟩ := hs
  have I2 : Inv X pins σ H1 { s1 with heap := h', toks := tk } := I1.kept fun b o z => hk b o (Heap.lt_size z) z
  exact call_len_set ho hex hd hf (by rw [hn]; omega) ⟨.int xs.length, H1, I2.tok _, ⟨_, by rw [hn]⟩, q1⟩
/-- xs + ys, lists that are read -/
def rCatL (K : PySem.W.Frag) : R2 := fun x y H Q => ∃ l b xs zs, x = .ref l ∧ y = .ref b ∧ SqL K H l xs ∧ SqL K H b zs ∧ xs.length + zs.length ≤ sizeLine ∧ ∀ p, H p = none → Q (.ref p) (upd H p (.lst (xs ++ zs)))
theorem op_catL {X : Cx} : OpR X (binaryOp .Add) (rCatL X.K) := by
  intro pins s σ H x y v u Q I rx ry h
  obtain ⟨l, b, xs, zs, rfl, rfl, h1, h2, hz, q⟩ := h
  cases rx
  cases ry
  obtain ⟨is, r1, ⟨⟨c1, d1, t1, s1⟩, n1, e1, k1, _, m1⟩, _⟩ := I.list h1
  obtain ⟨js, r2, ⟨⟨c2, d2, t2, s2⟩, n2, e2, k2, _, m2⟩, _⟩ := I.list h2
  dsimp only at k1 m1 k2 m2
  subst k1 m1 k2 m2
  have l1 := r1.length
  have l2 := r2.length
  refine concat_meets ⟨_, e1, rfl⟩ ⟨_, e2, rfl⟩ noFill_list_add seq_list_add F.slot_list_add F.entry_list_add (F.args_list_add_2 _ _)
    (list_addW l b is.toArray js.toArray n1 n2 d1 d2 s1 s2 (by simp only [List.size_toArray]; omega)) ⟨e1, e2, ?_⟩
  have ea : is.toArray ++ js.toArray = (is ++ js).toArray := by simp
  rw [ea]
  exact ⟨.ref _, _, I.lnew (t' := s.toks) (r1.append r2) (by rw [List.length_append]; omega), rfl, q _ I.fresh⟩
end Lf

set_option Elab.async false
set_option linter.all false
set_option maxRecDepth 100000
set_option maxHeartbeats 4000000
/-! Heaps that grow; data. -/
namespace Lf
open PySem PySem.Spec PyProof.Rows L2
/-- all but lists stay -/
def Solid (H H' : Hp) : Prop := ∀ b o, H b = some o → (∀ xs, o ≠ .lst xs) → H' b = some o
theorem Solid.refl (H : Hp) : Solid H H := fun _ _ h _ => h
theorem Solid.trans {H H1 H2 : Hp} (a : Solid H H1) (b : Solid H1 H2) : Solid H H2 := fun c o h n => b c o (a c o h n) n
theorem Solid.of {H H' : Hp} (e : Same H H') : Solid H H' := fun b o h _ => e b o h
theorem Solid.lst {H : Hp} {l : Addr} {xs ys : List V} (h : H l = some (.lst xs)) : Solid H (upd H l (.lst ys)) := fun b o e n => by
  rw [upd_ne (fun z => by rw [z, h] at e; cases e; exact n xs rfl)]
  exact e
theorem exo_nl {a C : Addr} {d : Option Addr} (xs : List V) : exo a C d ≠ .lst xs := fun z => by
  have z' : HO.ext _ = HO.lst xs := z
  cases z'
theorem exO_nl {a : Addr} {c : Value} (xs : List V) : ExO c a ≠ .lst xs := fun z => by
  have z' : HO.ext _ = HO.lst xs := z
  cases z'
theorem exd_nl {a : Addr} {fs : List (Str × V)} (xs : List V) : exd a fs ≠ .lst xs := fun z => by
  have z' : HO.ext _ = HO.lst xs := z
  cases z'
theorem XAt.solid {H H' : Hp} {a C : Addr} {d : Option Addr} (h : XAt H a C d) (s : Solid H H') : XAt H' a C d := by
  rcases h with h | ⟨e, h⟩
  · exact .inl (s _ _ h exo_nl)
  · exact .inr ⟨e, s _ _ h exO_nl⟩
/-- all but the thing at l stay -/
def But (l : Addr) (H H' : Hp) : Prop := ∀ b o, b ≠ l → H b = some o → H' b = some o
theorem But.refl {l : Addr} {H : Hp} : But l H H := fun _ _ _ h => h
theorem But.trans {l : Addr} {H H1 H2 : Hp} (a : But l H H1) (b : But l H1 H2) : But l H H2 := fun c o n h => b c o n (a c o n h)
theorem But.of {l : Addr} {H H' : Hp} (e : Same H H') : But l H H' := fun b o _ h => e b o h
theorem But.upd {l : Addr} {H : Hp} {o : HO} : But l H (upd H l o) := fun b u n h => by rw [upd_ne n]; exact h
theorem Same.but {l : Addr} {H0 H H' : Hp} (s : Same H0 H) (n : H0 l = none) (b : But l H H') : Same H0 H' := fun c o h => b c o (ne_of_none h n) (s c o h)
theorem SqT.same {K : PySem.W.Frag} {H H' : Hp} {a : Addr} {xs : List V} (e : Same H H') (h : SqT K H a xs) : SqT K H' a xs := by
  rcases h with (h | ⟨o, h⟩) | h
  · exact .inl (.inl (e _ _ h))
  · exact .inl (.inr ⟨o, e _ _ h⟩)
  · exact .inr h
theorem But.solid {l : Addr} {H H' : Hp} {xs : List V} (h : H l = some (.lst xs)) (b : But l H H') : Solid H H' := fun c o e n => b c o (fun z => by rw [z, h] at e; cases e; exact n xs rfl) e
theorem ifT {c : Bool} {A B : Prop} (hc : c = true) (h : A) : if c = true then A else B := by
  rw [if_pos hc]
  exact h
theorem ifF {c : Bool} {A B : Prop} (hc : c = false) (h : B) : if c = true then A else B := by
  rw [hc, if_neg Bool.false_ne_true]
  exact h
theorem pair_get {α β : Type} {F : α → β → Prop} : ∀ {as : List α} {bs : List β} {i : Nat} {a : α}, Paired F as bs → as[i]? = some a → ∃ b, bs[i]? = some b ∧ F a b
  | _, _, _, _, .nil, e => by simp at e
  | _, _, 0, _, .cons r _, e => by simp at e; subst e; exact ⟨_, rfl, r⟩
  | _, _, i + 1, a, .cons _ t, e => by
    obtain ⟨b, h1, h2⟩ := pair_get (i := i) (a := a) t (by simpa using e)
    exact ⟨b, by simpa using h1, h2⟩
theorem take_snoc {α : Type} {l : List α} {i : Nat} {x : α} (h : l[i]? = some x) : l.take (i + 1) = l.take i ++ [x] := by
  obtain ⟨hi, e⟩ := List.getElem?_eq_some_iff.mp h
  rw [← e]
  simp
theorem map_at {α : Type} {f : α → V} {l : List α} {i : Nat} {y : V} (h : (l.map f)[i]? = some y) : ∃ a, l[i]? = some a ∧ y = f a := by
  rw [List.getElem?_map] at h
  cases e : l[i]? with
  | none => rw [e] at h; cases h
  | some a => rw [e] at h; exact ⟨a, rfl, (Option.some.inj h).symm⟩
theorem eqv_same {d : PyData} (h : SeqAt.shaped d = true) : (!PyData.eqv d d) = false := by
  rw [SeqAt.eqv_refl d (SeqAt.canLay_of_shaped h)]
  rfl
mutual
theorem dp_same {K : PySem.W.Frag} {H H' : Hp} (e : Same H H') : ∀ {v : V} {d : PyData}, Dp K H v d → Dp K H' v d
  | _, _, .non => .non
  | _, _, .bl b => .bl b
  | _, _, .int i => .int i
  | _, _, .str x => .str x
  | _, _, .lst h r => .lst (L2.Same.seq e h) (dpAll_same e r)
  | _, _, .tup h r => .tup (SqT.same e h) (dpAll_same e r)
theorem dpAll_same {K : PySem.W.Frag} {H H' : Hp} (e : Same H H') : ∀ {vs : List V} {ds : List PyData}, DpAll K H vs ds → DpAll K H' vs ds
  | _, _, .nil => .nil
  | _, _, .cons h r => .cons (dp_same e h) (dpAll_same e r)
end
end Lf

set_option Elab.async false
set_option linter.all false
set_option maxRecDepth 100000
set_option maxHeartbeats 4000000
/-! for i, x in enumerate(t), t a tuple. -/
namespace Lf
open PySem PySem.Spec PyProof.Rows L2
set_option maxHeartbeats 8000000 in
theorem new_enum {v : Value} {o : Obj} {G : Heap → Prop} (B : Begins v o G) :
    Meets (Builtin.«enumerate.__new__» ⟨[.type "enumerate", v], []⟩) (fun _ R s => G s.heap ∧
      R (.ok (.ret (.ref (s.heap.push o).objs.size)))
        { s with heap := (s.heap.push o).push { cls := .type "enumerate", data := .fields #[.none, .bool false, .ref s.heap.objs.size, rawInt 0, .none, .none] } }) :=
  .of_wp fun prog w A R s hh => by
    obtain ⟨hp, g, d, tk, os⟩ := s
    obtain ⟨hg, fin⟩ := hh
    have sub := sub_enumerate
    have go : ∀ {A' : Around} {E' : Value → Shared → Prop} {Q' : Value → Shared → Prop}, Q' (.ref hp.objs.size) ⟨hp.push o, g, d, tk, os⟩ → wpAny (model prog w) A' (pyIter v) Q' E' ⟨hp, g, d, tk, os⟩ := fun q =>
      B.iter prog w _ _ ⟨hp, g, d, tk, os⟩ _ hg q
    wp_walk using go
    refine wpAny_stack_any fun st => wpAny_pure ?_
    split
    · rename_i c _ _ _ _ _
      cases (c == Value.type "enumerate") <;> (wp_walk using go; exact ⟨_, rfl, fin⟩)
    · wp_walk using go
      exact ⟨_, rfl, fin⟩
theorem call_enum {prog : Program} {w : World} {A : Around} {E : Value → Shared → Prop} {s : Shared} {v : Value} {o : Obj} {G : Heap → Prop} {Q : Value → Shared → Prop} (B : Begins v o G) (hg : G s.heap)
    (h : ∀ h', IsEnum h' (s.heap.objs.size + 1) s.heap.objs.size 0 .none → h'.get? s.heap.objs.size = some o → (∀ b u, s.heap.get? b = some u → h'.get? b = some u) → Q (.ref (s.heap.objs.size + 1)) { s with heap := h' }) :
    wpAny (model prog w) A (call (.type "enumerate") [v]) Q E s := by
  refine callType_new F.called_enumerate (by decide) (F.typeCall_enumerate_1 _) (F.newCall_enumerate_1 _) (fun x => F.args_object_init_2 x _) F.entry_enumerate_new (new_enum B) ⟨hg, ?_⟩
  have sz : (s.heap.push o).objs.size = s.heap.objs.size + 1 := Heap.size_push ..
  show _ ∧ _
  rw [sz]
  let e : Obj := { cls := .type "enumerate", data := .fields #[.none, .bool false, .ref s.heap.objs.size, rawInt 0, .none, .none] }
  have he : IsEnum ((s.heap.push o).push e) (s.heap.objs.size + 1) s.heap.objs.size 0 .none := by
    have z := Heap.get?_push_size (s.heap.push o) (o := e) rfl
    rw [sz] at z
    exact z
  exact ⟨⟨_, he, rfl⟩, h _ he (Heap.get?_push_of_some _ (Heap.get?_push_size _ B.free)) fun b u z => Heap.get?_push_of_some _ (Heap.get?_push_of_some _ z)⟩
/-- the tuple at a as it stands, its items in new pairs with their places -/
def Itet (K : PySem.W.Frag) (a : Addr) : It :=
  ⟨fun i H => ∃ (xs : List V) (x : V), SqT K H a xs ∧ xs[i]? = some x,
    fun i H v H' => ∃ T x, v = .ref T ∧ H T = none ∧ H' = upd H T (.tup [.int (i : Nat), x]) ∧ ∀ xs, SqT K H a xs → xs[i]? = some x,
    fun i H => ∃ xs : List V, SqT K H a xs ∧ xs.length = i⟩
theorem turn_enumT {P : Program} {w : World} {K : PySem.W.Frag} {elts : List Expr} {kk : Nat} {tpos : Pos} (a e it : Addr) :
    Turn P w K (.Tuple elts kk tpos) (Itet K a) [e, it] e (fun i h => (∃ old, IsEnum h e it ((i : Nat) : Int) old) ∧ h.IsTupleIter it a i ∧ e ≠ it ∧ a ≠ it ∧ a ≠ e) where
  mem := List.mem_cons_self
  obj := fun i h st b hb => by
    obtain ⟨⟨old, he⟩, ⟨o, ho, hc, hd⟩, _⟩ := st
    simp only [List.mem_cons, List.not_mem_nil, or_false] at hb
    rcases hb with rfl | rfl
    · exact ⟨_, he, fun v q => nomatch q⟩
    · exact ⟨o, ho, fun v q => by rw [hd] at q; cases q⟩
  keep := fun i h h' st k => by
    obtain ⟨⟨old, he⟩, hi, ne⟩ := st
    exact ⟨⟨old, k e (by simp) _ he⟩, hi.at fun o q => k it (by simp) o q, ne⟩
  item := by
    intro X hP hw hK hc i pins s σ H E I hf st hg
    subst hP hw hK
    obtain ⟨⟨old, he⟩, hit, ne, na, nae⟩ := st
    obtain ⟨xs, x, hq, hx⟩ := hg
    obtain ⟨its, rv, p, hz⟩ := I.tuple hq
    obtain ⟨u, hu, ru⟩ := rv.get hx
    have el : e < s.heap.objs.size := Heap.lt_size he
    have il : it < s.heap.objs.size := by obtain ⟨_, q, _⟩ := hit; exact Heap.lt_size q
    have calm : X.A.in1.handled = none := by have := I.ok.hd hc; simp [this]
    have hlt : i < its.toArray.size := by rw [List.size_toArray, ← rv.length]; exact (List.getElem?_eq_some_iff.mp hx).1
    refine wpAny_pyNext_enum_itemD (Draws.tuple (prog := X.prog) (w := X.w) calm it a na its.toArray) he ⟨hit, p⟩ hlt ne (by simp only [List.mem_cons, List.not_mem_nil, or_false, not_or]; exact ⟨ne, Ne.symm nae⟩) fun y h' tk hy ho st' hT hsz hk => ?_
    have ey : y = u := by
      have h1 : its[i]? = some y := by simpa using hy
      rw [hu] at h1
      exact (Option.some.inj h1).symm
    subst ey
    refine ⟨_, rfl, wpAny_letOwnedTupleGo_enum (s := { s with heap := h', toks := tk + 1 }) ho fun h'' he' sb => ?_⟩
    have hT2 := (sb.2 _ (Nat.ne_of_gt el)).trans hT
    have new : ObjOk X.prog X.w (upd H s.heap.objs.size (.tup [.int (i : Nat), x])) h'' s.heap.objs.size (.tup [.int (i : Nat), x]) :=
      ⟨by show 2 ≤ sizeLine; decide, [.int i tk, y], .cons ⟨_, rfl⟩ (.cons ru .nil), ⟨_, hT2, rfl, _, rfl⟩⟩
    have off : ∀ b, b ∉ [e, it] → b ≠ e ∧ b ≠ it := fun b hb => by
      simp only [List.mem_cons, List.not_mem_nil, or_false, not_or] at hb
      exact hb
    have I1 : Inv X pins σ (upd H s.heap.objs.size (.tup [.int (i : Nat), x])) { s with heap := h'', toks := tk + 1 } :=
      I.turnedNew (ch := [e, it]) (fun b ob hb q => (sb.2 b (off b hb).1).trans (hk b ob (off b hb).1 (off b hb).2 q)) hf (Nat.le_refl _) new
    refine ⟨.ref s.heap.objs.size, _, I1, rfl, ⟨_, x, rfl, I.hok.fresh (Nat.le_refl _), rfl, fun ys hy => by rw [I.tuple_inj hy hq]; exact hx⟩, ⟨⟨y, ?_⟩, st'.1.at fun o q => (sb.2 it (Ne.symm ne)).trans q, ne, na, nae⟩, fun b hb => ?_⟩
    · have z : ((i + 1 : Nat) : Int) = (i : Int) + 1 := by omega
      rw [z]
      exact he'
    · have lt : b < s.heap.objs.size := by
        simp only [List.mem_cons, List.not_mem_nil, or_false] at hb
        rcases hb with rfl | rfl
        · exact el
        · exact il
      rw [upd_ne (Nat.ne_of_lt lt)]
      exact (hf b hb).1
  done := by
    intro X hP hw hK hc i pins s σ H E I hf st hg
    subst hP hw hK
    obtain ⟨⟨old, he⟩, hit, ne, na, nae⟩ := st
    obtain ⟨xs, hq, hx⟩ := hg
    obtain ⟨its, rv, p, hz⟩ := I.tuple hq
    obtain ⟨f0, f1, f2, f3, f4, f5⟩ := hf it (by simp)
    have calm : X.A.in1.handled = none := by have := I.ok.hd hc; simp [this]
    have en : its.toArray.size = i := by rw [List.size_toArray, ← rv.length, hx]
    exact wpAny_pyNext_enum_endD (Draws.tuple (prog := X.prog) (w := X.w) calm it a na its.toArray) he (by rw [en]; exact ⟨hit, p⟩) fun h' eb => ⟨rfl, I.turned (t' := s.toks) (fun b o hb q => eb b o hb q) f0 f1 f3 f4 f5⟩
  self := fun A i s Q E st h => by
    obtain ⟨⟨_, he⟩, _⟩ := st
    exact wpAny_pyIter_enum he h
/-- enumerate(x), x a list or a tuple -/
def iEnumA (K : PySem.W.Frag) (ta : TE) : TI := fun σ H R => ta σ H fun x H1 => ∃ a xs, x = .ref a ∧ ((SqL K H1 a xs ∧ R (Ite K a) H1) ∨ (SqT K H1 a xs ∧ R (Itet K a) H1))
theorem pi_enumA {X : Cx} {e : Expr} {ta : TE} {p pos tpos : Pos} {elts : List Expr} {kk : Nat} (hg : Gl X "enumerate") (hm : X.mg "enumerate" = none) (ha : PE X e ta)
    (hs : starEach [e] X.env = [(false, eval e X.env)] := by rfl) : PI X (.Tuple elts kk tpos) (.Call (.Name "enumerate" p) [e] [] pos) (iEnumA X.K ta) := by
  refine ⟨fun pins s σ H R I h => ?_⟩
  refine Call_ (ld_blt I hg hm boot_enumerate (PyProof.Rows.callWith_type1 (thn ((pa_cons (PE.up ha) pa_nil hs).run pos pins s σ H (fun vs H1 => ∃ x, vs = [x] ∧ ∃ a xs, x = .ref a ∧ ((SqL X.K H1 a xs ∧ R (Ite X.K a) H1) ∨ (SqT X.K H1 a xs ∧ R (Itet X.K a) H1))) I ?_) fun us s1 hh => ?_) hs rfl))
  · exact ⟨_, h, fun v H' z => ⟨v, rfl, z⟩⟩
  obtain ⟨vs, H1, I1, r1, x, rfl, a, xs, rfl, q1⟩ := hh
  cases r1 with
  | cons r rr =>
    cases rr
    cases r
    have fp : ∀ b ∈ [s1.heap.objs.size + 1, s1.heap.objs.size], s1.heap.objs.size ≤ b := fun b hb => by
      simp only [List.mem_cons, List.not_mem_nil, or_false] at hb
      rcases hb with rfl | rfl
      · exact Nat.le_add_right _ _
      · exact Nat.le_refl _
    rcases q1 with ⟨hq, q⟩ | ⟨hq, q⟩
    · obtain ⟨its, rv, p', hz⟩ := I1.list hq
      refine call_enum (begins_list a its.toArray) p'.isList fun h' he hit hk => wpAny_pyIter_enum he ?_
      exact ⟨s1.heap.objs.size + 1, [s1.heap.objs.size + 1, s1.heap.objs.size], _, _, H1, rfl, I1.kept (t' := s1.toks) hk, turn_enum a (s1.heap.objs.size + 1) s1.heap.objs.size,
        ⟨⟨.none, he⟩, ⟨_, hit, rfl, rfl⟩, Nat.succ_ne_self _⟩, fun b hb => I1.fpOk (fp b hb) (I1.hok.fresh (fp b hb)), q⟩
    · obtain ⟨its, rv, p', hz⟩ := I1.tuple hq
      have al : a < s1.heap.objs.size := p'.lt
      refine call_enum (begins_tuple a its.toArray) p' fun h' he hit hk => wpAny_pyIter_enum he ?_
      exact ⟨s1.heap.objs.size + 1, [s1.heap.objs.size + 1, s1.heap.objs.size], _, _, H1, rfl, I1.kept (t' := s1.toks) hk, turn_enumT a (s1.heap.objs.size + 1) s1.heap.objs.size,
        ⟨⟨.none, he⟩, ⟨_, hit, rfl, rfl⟩, Nat.succ_ne_self _, Nat.ne_of_lt al, Nat.ne_of_lt (Nat.lt_succ_of_lt al)⟩, fun b hb => I1.fpOk (fp b hb) (I1.hok.fresh (fp b hb)), q⟩
/-- it gives each item of xs in a new pair with its place -/
theorem walk_enumT {K : PySem.W.Frag} {a : Addr} {xs : List V} : Walk (Itet K a) xs.length (fun H => SqT K H a xs)
    (fun i H v H' => ∃ T x, v = .ref T ∧ H T = none ∧ H' = upd H T (.tup [.int (i : Nat), x]) ∧ xs[i]? = some x) where
  goes := fun i H hi g => ⟨xs, _, g, List.getElem?_eq_getElem hi⟩
  stops := fun H g => ⟨xs, g, rfl⟩
  yields := fun i H x H' _ g y => by
    obtain ⟨T, z, e, n, eh, f⟩ := y
    exact ⟨T, z, e, n, eh, f xs g⟩
theorem walk_enumL {K : PySem.W.Frag} {a : Addr} {xs : List V} : Walk (Ite K a) xs.length (fun H => SqL K H a xs)
    (fun i H v H' => ∃ T x, v = .ref T ∧ H T = none ∧ H' = upd H T (.tup [.int (i : Nat), x]) ∧ xs[i]? = some x) where
  goes := fun i H hi g => ⟨xs, _, g, List.getElem?_eq_getElem hi⟩
  stops := fun H g => ⟨xs, g, Nat.le_refl _⟩
  yields := fun i H x H' _ g y => by
    obtain ⟨T, z, e, n, eh, f⟩ := y
    exact ⟨T, z, e, n, eh, f xs g⟩
end Lf

set_option Elab.async false
set_option linter.all false
set_option maxRecDepth 100000
set_option maxHeartbeats 8000000
/-! A binary operator by an own method, the other operand of any type; != by an own __eq__. -/
namespace Lf
open PySem PySem.Spec PyProof.Rows L2
section
open PySem.W
variable {prog : Program} {w : World} {A : Around} {E : Value → Shared → Prop} {s : Shared} {K : Frag} {x C L f : Addr} {h₀ : Heap} {m : Str → Option Value} {ox : Obj} {od : Option Obj}
/-- what is to be known of the other operand's type -/
structure Side (K : Frag) (C : Addr) (nm : String) (tb : Value) (right py : Bool) : Prop where
  ne : (Value.ref C == tb) = false
  fills : ∀ (M : Model) (h : Heap), K.In h → Looks M h (fillsNumberSlot tb nm) right
  sub : subIn K tb (.ref C) = some false
  inPy : right = true → ∀ (M : Model) (h : Heap), K.In h → Looks M h (numberSlotInPython tb nm) py
  refl : right = true → py = false → ∃ ro, findIn K tb (dunderR nm) = some ro
theorem bin_other {op : Operator} {b tb : Value} {rc : Option Value} {right py : Bool} {Q : Value → Shared → Prop} (F : Fr h₀ L s.heap m) (X₀ : K.In h₀) (I : InstAt s.heap x ox C od) (hc : selfFirst K C = true)
    (hs : findIn K (.ref C) (PySem.dunder op.info.2) = some (some (.ref f))) (hf : isFn K (.ref f) = true) (hr : findIn K (.ref C) (dunderR op.info.2) = some rc) (hp : rc = none ∨ ∃ g : Addr, rc = some (.ref g))
    (Lb : Looks (model prog w) s.heap (typeOf b) tb) (S : Side K C op.info.2 tb right py)
    (h : wpAny (model prog w) A (call (.ref f) [.ref x, b]) (PySem.W.CmpBack Q) E s) : wpAny (model prog w) A (binaryOp op (.ref x) b) Q E s := by
  have X := X₀.keeps F.keep
  obtain ⟨cd, rest, hcd, hm⟩ := ksp_first hc
  rcases hi : op.info with ⟨sym, nm'⟩
  rw [hi] at hs hr S
  dsimp only at hs hr S
  have one := ksp_try X I hs hf h
  obtain ⟨hh, g, d, tt, os⟩ := s
  have L1 : Looks (model prog w) hh (typeOf (.ref x)) (.ref C) := I.type
  have L3 : Looks (model prog w) hh (fillsNumberSlot (.ref C) nm') true := fills_K X hcd hm hs
  have L4 := S.fills (model prog w) hh X
  have L5 : Looks (model prog w) hh (isSubtype tb (.ref C)) false := looks_subIn X S.sub
  have L6 : Looks (model prog w) hh (numberSlotInPython (.ref C) nm') true := ksp_inPy X hs hr hp
  have hne := S.ne
  simp only [binaryOp, hi]
  refine wpAny_holding (wpAny_bind ?_)
  unfold binaryOp1
  refine wpAny_bind (L1.at (wpAny_bind (Lb.at (wpAny_bind (L3.at ?_)))))
  simp only [hne, Bool.false_eq_true, if_false]
  cases right with
  | false =>
    ksp_lk
    refine wpAny_mono one (fun r s' hr' => ?_) fun _ _ e => e
    obtain ⟨v, rfl, hq⟩ := hr'
    ksp_lk
    exact hq
  | true =>
    have L7 := S.inPy rfl (model prog w) hh X
    cases py with
    | true =>
      ksp_lk
      refine wpAny_mono one (fun r s' hr' => ?_) fun _ _ e => e
      obtain ⟨v, rfl, hq⟩ := hr'
      ksp_lk
      exact hq
    | false =>
      obtain ⟨ro, hro⟩ := S.refl rfl rfl
      have L8 : Looks (model prog w) hh (typeLookup tb (dunderR nm')) ro := looks_findIn X hro
      ksp_lk
      refine wpAny_mono one (fun r s' hr' => ?_) fun _ _ e => e
      obtain ⟨v, rfl, hq⟩ := hr'
      ksp_lk
      exact hq
end

/-- what is known of a class C with a method of its own for op -/
structure OwnOp (K : PySem.W.Frag) (C : Addr) (nm : String) (f : Addr) : Prop where
  first : PySem.W.selfFirst K C = true
  find : PySem.W.findIn K (.ref C) (PySem.dunder nm) = some (some (.ref f))
  fn : PySem.W.isFn K (.ref f) = true
  refl : PySem.W.findIn K (.ref C) (dunderR nm) = some none
def RightOf (K : PySem.W.Frag) (C : Addr) (nm : String) (t : Value) : Prop := t = .ref C ∨ ∃ right py, Side K C nm t right py
def rBin (K : PySem.W.Frag) (C : Addr) (nm : String) (sp : Sp) (E : XK) : R2 := fun x y H Q => ∃ a dx fs t, x = .ref a ∧ H a = some (.ins C dx fs) ∧ TyX K H y t ∧ RightOf K C nm t ∧ sp [.ref a, y] H Q E
theorem cmpBack {X : Cx} {pins : List (Addr × Obj)} {σ : L2.St} {Q : VK} {v : Value} {s : Shared} (h : EP X pins σ Q v s) : PySem.W.CmpBack (EP X pins σ Q) v s := by
  cases v with
  | notImplemented =>
    obtain ⟨z, H, I, r, q⟩ := h
    cases z <;> first | (obtain ⟨_, e⟩ := r; cases e; done) | (cases r; done)
  | _ => exact h
theorem op_own {X : Cx} {CX : CXT} {k : Nat} {f C : Addr} {fd : FuncData} {ps : List Str} {sp : Sp} {E : XK} {op : Operator} (O : OwnOp X.K C op.info.2 f) (F : FnOk X.prog X.w X.K X.mg X.base CX k f fd ps sp) (hr : Room k X.A)
    (hb : L2.Binds X.K fd ps []) (hx : Passes CX X E) : OpR X (binaryOp op) (rBin X.K C op.info.2 sp E) := by
  intro pins s σ H x y v u Q I rx ry hq
  obtain ⟨a, dx, fs, t, rfl, ha, ty, rt, h⟩ := hq
  cases rx
  obtain ⟨mA, J, _⟩ := ins_get I.hok ha
  obtain ⟨od, J, _⟩ := J.look
  obtain ⟨m, hF⟩ := I.fr
  obtain ⟨P, Z, hP, _⟩ := kit_of I ry ty
  have Lb := Z.ty (model X.prog X.w) s.heap I.kIn hP
  have run : wpAny (model X.prog X.w) X.A (call (.ref f) [.ref a, u]) (PySem.W.CmpBack (EP X pins σ Q)) X.xe s :=
    wpAny_mono (run_fn (us := [.ref a, u]) (vs := [.ref a, y]) F hr hb .nil hx I (.cons rfl (.cons ry .nil)) h) (fun _ _ q => cmpBack q) fun _ _ e => e
  rcases rt with rfl | ⟨right, py, S⟩
  · exact PySem.W.binop_K hF I.ok.mod.kin J Lb O.first O.find O.fn run
  · exact bin_other hF I.ok.mod.kin J O.first O.find O.fn O.refl (.inl rfl) Lb S run

section
open PySem.W
variable {prog : Program} {w : World} {A : Around} {E : Value → Shared → Prop} {s : Shared} {K : Frag} {x C L f : Addr} {h₀ : Heap} {m : Str → Option Value} {ox : Obj} {od : Option Obj}
theorem slotNe : PySem.Slot "object" "__ne__" "object.__ne__" := PySem.F.slot_object_ne
theorem ifBound_ne {b : Value} {Q : Option Value → Shared → Prop} (X : K.In s.heap) (I : InstAt s.heap x ox C od) (hf : findIn K (.ref C) "__ne__" = some (some (.builtin "object.__ne__")))
    (h : wpAny (model prog w) A (call (.builtin "object.__ne__") [.ref x, b]) (fun v => Q (some v)) E s) : wpAny (model prog w) A (callSpecialIfBound? (.ref x) "__ne__" [b]) Q E s := by
  simp only [callSpecialIfBound?, bindSpecialIfBound?]
  refine wpAny_holding (wpAny_bind (wpAny_bind (wpAny_bind (I.type.here ((looks_findIn X hf).here ?_)))))
  refine wpAny_bind (wpAny_askSetting (wpAny_ite ?_))
  have fin : wpAny (model prog w) A (call (.builtin "object.__ne__") ([.ref x] ++ [b]) >>= fun v => pure (some v)) Q E s := wpAny_bind (wpAny_mono h (fun v s' h' => wpAny_pure h') fun _ _ h' => h')
  rw [slotNe.bind]
  split
  · exact wpAny_bind (wpAny_pure (wpAny_pure (by exact fin)))
  · exact wpAny_tryCatch (wpAny_bind (wpAny_pure (wpAny_pure (by exact fin))))
theorem ne_body {b : Value} {Q : Fin → Shared → Prop} (hu : A.units < cLine) (X : K.In s.heap) (I : InstAt s.heap x ox C od) (hs : findIn K (.ref C) "__eq__" = some (some (.ref f))) (hf : isFn K (.ref f) = true)
    (h : wpAny (model prog w) A (call (.ref f) [.ref x, b]) (fun v s' => ∃ r, v = .bool r ∧ Q (.done (.ret (.bool (!r)))) s') E s) : wpAny (model prog w) A (Builtin.«object.__ne__» ⟨[.ref x, b], []⟩) Q E s := by
  unfold Builtin.«object.__ne__»
  refine wpAny_bind (wpAny_pure ?_)
  refine wpAny_bind (wpAny_cRoomFor hu ?_)
  refine wpAny_bind (ifBound_K X I hs hf (wpAny_mono h (fun v s' hv => ?_) fun _ _ e => e))
  obtain ⟨r, rfl, q⟩ := hv
  exact wpAny_bind (wpAny_truthy_bool (wpAny_pure q))

theorem call_ne {b : Value} {Q : Value → Shared → Prop} (hu : A.in1.units < cLine) (X : K.In s.heap) (I : InstAt s.heap x ox C od) (ho : subIn K (.ref C) (.type "object") = some true) (hs : findIn K (.ref C) "__eq__" = some (some (.ref f))) (hf : isFn K (.ref f) = true)
    (h : wpAny (model prog w) A.in1 (call (.ref f) [.ref x, b]) (fun v s' => ∃ r, v = .bool r ∧ Q (.bool (!r)) s') E s) : wpAny (model prog w) A (call (.builtin "object.__ne__") [.ref x, b]) Q E s := by
  refine wpAny_call (codeAny_call_builtin slotNe.plain PySem.F.cmpEntry_ne ?_)
  refine PySem.W.check_slot PySem.F.cmpKind_ne PySem.F.cmpSplit_ne (I.type.andThen (looks_subIn X ho)) (PySem.F.cmpArgs_ne _ _) ?_
  refine ne_body hu X I hs hf (wpAny_mono h (fun v s' hv => ?_) fun _ _ e => e)
  obtain ⟨r, rfl, q⟩ := hv
  exact ⟨r, rfl, q⟩
theorem rc_ne {b tb : Value} {Q : Value → Shared → Prop} (hu : A.units + 1 < cLine) (F : Fr h₀ L s.heap m) (X₀ : K.In h₀) (I : InstAt s.heap x ox C od) (hb : Looks (model prog w) s.heap (typeOf b) tb) (hn : notFirst K C tb = true) (ho : subIn K (.ref C) (.type "object") = some true)
    (hne : findIn K (.ref C) "__ne__" = some (some (.builtin "object.__ne__"))) (hs : findIn K (.ref C) "__eq__" = some (some (.ref f))) (hf : isFn K (.ref f) = true)
    (h : wpAny (model prog w) A.in1 (call (.ref f) [.ref x, b]) (fun v s' => ∃ r, v = .bool r ∧ Q (.bool (!r)) s') E s) : wpAny (model prog w) A (richCompare .NotEq (.ref x) b) Q E s := by
  have X := X₀.keeps F.keep
  have one : wpAny (model prog w) A (tryCompare (.ref x) "__ne__" b) (fun r s' => ∃ v, r = some v ∧ Q v s') E s := by
    unfold tryCompare
    refine wpAny_bind (ifBound_ne X I hne (call_ne hu X I ho hs hf (wpAny_mono h (fun v s' hv => ?_) fun _ _ e => e)))
    obtain ⟨r, rfl, q⟩ := hv
    exact ⟨r, rfl, wpAny_pure ⟨_, rfl, q⟩⟩
  unfold richCompare
  simp only [oneThing_ref]
  refine wpAny_holding (wpAny_bind (wpAny_cRoomFor (Nat.lt_of_succ_lt hu) ?_))
  refine wpAny_bind (I.type.here (wpAny_bind (hb.here ?_)))
  split
  · rename_i q
    have e : subIn K tb (.ref C) = some false := by
      rcases Bool.or_eq_true_iff.mp hn with e | e
      · rw [beq_iff_eq.mp e] at q; simp at q
      · exact beq_iff_eq.mp e
    refine wpAny_bind ((looks_subIn X e).here ?_)
    simp only [Bool.false_eq_true, if_false]
    refine wpAny_bind (wpAny_mono one (fun r s' z => ?_) fun _ _ e => e)
    obtain ⟨v, rfl, hq⟩ := z
    exact wpAny_pure hq
  · refine wpAny_bind (wpAny_pure ?_)
    simp only [Bool.false_eq_true, if_false]
    refine wpAny_bind (wpAny_mono one (fun r s' z => ?_) fun _ _ e => e)
    obtain ⟨v, rfl, hq⟩ := z
    exact wpAny_pure hq
end
/-- a function's promise kept below the running body -/
theorem run_sub {X : Cx} {CX : CXT} {k : Nat} {f : Addr} {fd : FuncData} {ps : List Str} {sp : Sp} {E : XK} {A : Around} (F : FnOk X.prog X.w X.K X.mg X.base CX k f fd ps sp) (sb : Sub X k A) (hb : L2.Binds X.K fd ps []) (hx : Passes CX X E)
    {pins : List (Addr × Obj)} {σ : L2.St} {H : Hp} {s : Shared} {Q : VK} {us : List Value} {vs : List V} (I : L2.Inv X pins σ H s) (r : Vals vs us) (h : sp vs H Q E) : wpAny (model X.prog X.w) A (call (.ref f) us) (EP X pins σ Q) X.xe s := by
  have hl := F.len _ _ _ _ h
  have e0 : Env0 X.prog X.w X.K X.mg X.base A X.stack s H := by
    have e := I.env0
    exact ⟨by rw [sb.fr]; exact e.frames, e.mod, e.bs, e.bsz, e.funs, e.frf, e.hok, e.bare⟩
  have hl2 : us.length = ps.length := by rw [← r.length]; exact hl
  refine wpAny_call (codeAny_mono (F.run A X.stack s H ⟨us, []⟩ us vs Q E sb.room e0 (by
    have := hb s us I.kIn (by simpa using hl2)
    simpa using this) r h) fun r s' hq => ?_)
  cases r with
  | error e => exact hx pins σ H s e s' I hq
  | ok fl =>
    cases fl with
    | ret u => exact I.after hq
    | next => exact False.elim hq
    | brk => exact False.elim hq
    | cont => exact False.elim hq
/-- what is known of a class with an own == and no own != -/
structure OwnEq (K : PySem.W.Frag) (C f : Addr) : Prop where
  eq : PySem.W.findIn K (.ref C) "__eq__" = some (some (.ref f))
  fn : PySem.W.isFn K (.ref f) = true
  ne : PySem.W.findIn K (.ref C) "__ne__" = some (some (.builtin "object.__ne__"))
  obj : PySem.W.subIn K (.ref C) (.type "object") = some true
/-- x == y of an instance x of C and any y whose class doesn't descend from C -/
def rOwnEq (K : PySem.W.Frag) (C : Addr) (sp : Sp) (E : XK) : R2 := fun x y H Q => ∃ a dx fs t, x = .ref a ∧ H a = some (.ins C dx fs) ∧ TyX K H y t ∧ PySem.W.notFirst K C t = true ∧ sp [.ref a, y] H Q E
def rOwnNe (K : PySem.W.Frag) (C : Addr) (sp : Sp) (E : XK) : R2 := fun x y H Q => ∃ a dx fs t, x = .ref a ∧ H a = some (.ins C dx fs) ∧ TyX K H y t ∧ PySem.W.notFirst K C t = true ∧ sp [.ref a, y] H (fun v H' => ∃ b, v = .bl b ∧ Q (.bl (!b)) H') E
section
variable {X : Cx} {CX : CXT} {k : Nat} {f C : Addr} {fd : FuncData} {ps : List Str} {sp : Sp} {E : XK}
theorem op_ownEq (O : OwnEq X.K C f) (F : FnOk X.prog X.w X.K X.mg X.base CX k f fd ps sp) (hr : Room k X.A) (hb : L2.Binds X.K fd ps []) (hx : Passes CX X E) : OpR X (compareOp .Eq) (rOwnEq X.K C sp E) := by
  intro pins s σ H x y v u Q I rx ry hq
  obtain ⟨a, dx, fs, t, rfl, ha, ty, nf, h⟩ := hq
  cases rx
  obtain ⟨mA, J, _⟩ := ins_get I.hok ha
  obtain ⟨od, J, _⟩ := J.look
  obtain ⟨m, hF⟩ := I.fr
  obtain ⟨P, Z, hP, _⟩ := kit_of I ry ty
  have run : wpAny (model X.prog X.w) X.A (call (.ref f) [.ref a, u]) (PySem.W.CmpBack (EP X pins σ Q)) X.xe s :=
    wpAny_mono (run_fn (us := [.ref a, u]) (vs := [.ref a, y]) F hr hb .nil hx I (.cons rfl (.cons ry .nil)) h) (fun _ _ q => cmpBack q) fun _ _ e => e
  show wpAny (model X.prog X.w) X.A (richCompare .Eq (.ref a) u) (EP X pins σ Q) X.xe s
  exact PySem.W.cmp_K (op := .Eq) hr.units0 hF I.ok.mod.kin J (Z.ty _ s.heap I.kIn hP) nf O.eq O.fn run
theorem op_ownNe (O : OwnEq X.K C f) (F : FnOk X.prog X.w X.K X.mg X.base CX k f fd ps sp) (hr : Room (k + 1) X.A) (hb : L2.Binds X.K fd ps []) (hx : Passes CX X E) : OpR X (compareOp .NotEq) (rOwnNe X.K C sp E) := by
  intro pins s σ H x y v u Q I rx ry hq
  obtain ⟨a, dx, fs, t, rfl, ha, ty, nf, h⟩ := hq
  cases rx
  obtain ⟨mA, J, _⟩ := ins_get I.hok ha
  obtain ⟨od, J, _⟩ := J.look
  obtain ⟨m, hF⟩ := I.fr
  obtain ⟨P, Z, hP, _⟩ := kit_of I ry ty
  have sb : Sub X k X.A.in1 := ⟨hr.in1, rfl⟩
  have run : wpAny (model X.prog X.w) X.A.in1 (call (.ref f) [.ref a, u]) (fun v s' => ∃ r, v = .bool r ∧ EP X pins σ Q (.bool (!r)) s') X.xe s :=
    wpAny_mono (run_sub (us := [.ref a, u]) (vs := [.ref a, y]) F sb hb hx I (.cons rfl (.cons ry .nil)) h) (fun v s' q => by
      obtain ⟨z, H', I', r, b, rfl, q⟩ := q
      cases r
      exact ⟨b, rfl, .bl (!b), H', I', rfl, q⟩) fun _ _ e => e
  show wpAny (model X.prog X.w) X.A (richCompare .NotEq (.ref a) u) (EP X pins σ Q) X.xe s
  exact rc_ne hr.in1.units0 hF I.ok.mod.kin J (Z.ty _ s.heap I.kIn hP) nf O.obj O.ne O.eq O.fn run
end

theorem dunder_mul : PySem.dunder "mul" = ("__mul__" : Str) := by decide +kernel
/-- what a head says of an own class with *, == and no reflected *, no != -/
def opsB (K : PySem.W.Frag) (owns : List Addr) (C : Addr) : Bool :=
  PySem.W.selfFirst K C && (decide (PySem.W.findIn K (.ref C) (dunderR "mul") = some none) && (decide (PySem.W.findIn K (.ref C) "__ne__" = some (some (.builtin "object.__ne__"))) && (decide (PySem.W.subIn K (.ref C) (.type "object") = some true) &&
  ((["NoneType", "int", "bool", "str", "list", "tuple"].all fun b => decide (PySem.W.subIn K (.type b) (.ref C) = some false)) && (owns.all fun D => decide (PySem.W.subIn K (.ref D) (.ref C) = some (decide (D = C))))))))
structure Ops (K : PySem.W.Frag) (owns : List Addr) (C : Addr) : Prop where
  first : PySem.W.selfFirst K C = true
  rmul : PySem.W.findIn K (.ref C) (dunderR "mul") = some none
  ne : PySem.W.findIn K (.ref C) "__ne__" = some (some (.builtin "object.__ne__"))
  obj : PySem.W.subIn K (.ref C) (.type "object") = some true
  tys : ∀ b ∈ ["NoneType", "int", "bool", "str", "list", "tuple"], PySem.W.subIn K (.type b) (.ref C) = some false
  own : ∀ D ∈ owns, PySem.W.subIn K (.ref D) (.ref C) = some (decide (D = C))
theorem ops_ok {K : PySem.W.Frag} {owns : List Addr} {C : Addr} (h : opsB K owns C = true) : Ops K owns C := by
  unfold opsB at h
  simp only [Bool.and_eq_true, decide_eq_true_eq, List.all_eq_true] at h
  obtain ⟨a, b, c, d, e, f⟩ := h
  exact ⟨a, b, c, d, e, f⟩
section
variable {K : PySem.W.Frag} {owns : List Addr} {C D f g : Addr}
theorem Ops.mul (o : Ops K owns C) (m : Meth K C "__mul__" f) : OwnOp K C "mul" f := ⟨o.first, by rw [dunder_mul]; exact m.at_, m.fn, o.rmul⟩
theorem Ops.eq (o : Ops K owns C) (m : Meth K C "__eq__" f) : OwnEq K C f := ⟨m.at_, m.fn, o.ne, o.obj⟩
theorem right_same : RightOf K C "mul" (.ref C) := .inl rfl
theorem Ops.right (o : Ops K owns C) (o2 : Ops K owns D) (m2 : Meth K D "__mul__" g) (hD : D ∈ owns) (ne : D ≠ C) : RightOf K C "mul" (.ref D) :=
  .inr ⟨true, true, ⟨Bool.eq_false_iff.mpr fun q => ne (by have := beq_iff_eq.mp q; injection this with this; exact this.symm), fun M h X => by
    obtain ⟨cd, rest, hcd, hm⟩ := PySem.W.ksp_first o2.first
    exact PySem.W.fills_K X hcd hm (o2.mul m2).find, by rw [o.own D hD, decide_eq_false ne], fun _ M h X => PySem.W.ksp_inPy X (o2.mul m2).find o2.rmul (.inl rfl), fun _ z => nomatch z⟩⟩
theorem Ops.rightT (o : Ops K owns C) {T : String} {fo ro : Option Value} (hT : T ∈ ["NoneType", "int", "bool", "str", "list", "tuple"]) (h1 : fastLookup T (PySem.dunder "mul") = some fo) (h2 : fastLookup T (dunderR "mul") = some ro) : RightOf K C "mul" (.type T) :=
  .inr ⟨_, false, ⟨Bool.eq_false_iff.mpr fun q => (nomatch beq_iff_eq.mp q), fun M h X => PySem.W.ksp_fillsT X h1 h2, o.tys T hT, fun _ M h X => PySem.W.Looks.of_pure rfl, fun _ _ => ⟨ro, h2⟩⟩⟩
theorem Ops.right_int (o : Ops K owns C) : RightOf K C "mul" (.type "int") := o.rightT (fo := some (.builtin "int.__mul__")) (ro := some (.builtin "int.__rmul__")) (by decide) (by kernel_rfl) (by kernel_rfl)
theorem Ops.right_none (o : Ops K owns C) : RightOf K C "mul" (.type "NoneType") := o.rightT (fo := none) (ro := none) (by decide) (by kernel_rfl) (by kernel_rfl)
theorem Ops.right_tuple (o : Ops K owns C) : RightOf K C "mul" (.type "tuple") := o.rightT (fo := some (.builtin "tuple.__mul__")) (ro := some (.builtin "tuple.__rmul__")) (by decide) (by kernel_rfl) (by kernel_rfl)
theorem Ops.right_list (o : Ops K owns C) : RightOf K C "mul" (.type "list") := o.rightT (fo := some (.builtin "list.__mul__")) (ro := some (.builtin "list.__rmul__")) (by decide) (by kernel_rfl) (by kernel_rfl)
theorem Ops.right_str (o : Ops K owns C) : RightOf K C "mul" (.type "str") := o.rightT (fo := some (.builtin "str.__mul__")) (ro := some (.builtin "str.__rmul__")) (by decide) (by kernel_rfl) (by kernel_rfl)
theorem Ops.notFirst (o : Ops K owns C) (hD : D ∈ owns) : PySem.W.notFirst K C (.ref D) = true := by
  unfold PySem.W.notFirst
  by_cases e : D = C
  · subst e
    simp
  · rw [o.own D hD, decide_eq_false e]
    simp
theorem Ops.notFirstT (o : Ops K owns C) {T : String} (hT : T ∈ ["NoneType", "int", "bool", "str", "list", "tuple"]) : PySem.W.notFirst K C (.type T) = true := by
  unfold PySem.W.notFirst
  rw [o.tys T hT]
  simp
end
end Lf

set_option Elab.async false
set_option linter.all false
set_option maxRecDepth 100000
set_option maxHeartbeats 0
namespace K18
open PySem PySem.Spec PyProof.Rows L2
def top (i : Nat) : Stmt := PySem.Challenge.pw_letterfolds_k18_rules_of_a_monoid.main.body.getD i (.Pass ⟨0, 0, 0, 0⟩)
abbrev s_is_number : Stmt := top 3
def d_is_number : He.DefD := ⟨("is_number", none), "is_number", "is_number", defArgs s_is_number, defBody s_is_number, defScope s_is_number, [], []⟩
abbrev s_is_between : Stmt := top 4
def d_is_between : He.DefD := ⟨("is_between", none), "is_between", "is_between", defArgs s_is_between, defBody s_is_between, defScope s_is_between, [], []⟩
abbrev s_is_sequence : Stmt := top 5
def d_is_sequence : He.DefD := ⟨("is_sequence", none), "is_sequence", "is_sequence", defArgs s_is_sequence, defBody s_is_sequence, defScope s_is_sequence, [], []⟩
abbrev s_NoNumber_init : Stmt := inClass (top 8) 0
def d_NoNumber_init : He.DefD := ⟨("NoNumber", some "__init__"), "__init__", "NoNumber.__init__", defArgs s_NoNumber_init, defBody s_NoNumber_init, defScope s_NoNumber_init, [], []⟩
abbrev s_NoMonoid_init : Stmt := inClass (top 9) 0
def d_NoMonoid_init : He.DefD := ⟨("NoMonoid", some "__init__"), "__init__", "NoMonoid.__init__", defArgs s_NoMonoid_init, defBody s_NoMonoid_init, defScope s_NoMonoid_init, [], []⟩
abbrev s_Monoid_init : Stmt := inClass (top 12) 0
def d_Monoid_init : He.DefD := ⟨("Monoid", some "__init__"), "__init__", "Monoid.__init__", defArgs s_Monoid_init, defBody s_Monoid_init, defScope s_Monoid_init, [], []⟩
abbrev s_Monoid_eq : Stmt := inClass (top 12) 1
def d_Monoid_eq : He.DefD := ⟨("Monoid", some "__eq__"), "__eq__", "Monoid.__eq__", defArgs s_Monoid_eq, defBody s_Monoid_eq, defScope s_Monoid_eq, [], []⟩
abbrev s_Monoid_size : Stmt := inClass (top 12) 2
def d_Monoid_size : He.DefD := ⟨("Monoid", some "size"), "size", "Monoid.size", defArgs s_Monoid_size, defBody s_Monoid_size, defScope s_Monoid_size, [], []⟩
abbrev s_Monoid_words : Stmt := inClass (top 12) 3
def d_Monoid_words : He.DefD := ⟨("Monoid", some "words"), "words", "Monoid.words", defArgs s_Monoid_words, defBody s_Monoid_words, defScope s_Monoid_words, [], []⟩
abbrev s_Monoid_left : Stmt := inClass (top 12) 4
def d_Monoid_left : He.DefD := ⟨("Monoid", some "left"), "left", "Monoid.left", defArgs s_Monoid_left, defBody s_Monoid_left, defScope s_Monoid_left, [], []⟩
abbrev s_Monoid_times : Stmt := inClass (top 12) 6
def d_Monoid_times : He.DefD := ⟨("Monoid", some "times"), "times", "Monoid.times", defArgs s_Monoid_times, defBody s_Monoid_times, defScope s_Monoid_times, [], []⟩
abbrev s_Monoid_rules : Stmt := inClass (top 12) 15
def d_Monoid_rules : He.DefD := ⟨("Monoid", some "rules"), "rules", "Monoid.rules", defArgs s_Monoid_rules, defBody s_Monoid_rules, defScope s_Monoid_rules, [], []⟩
abbrev s_Monoid_check_number : Stmt := inClass (top 12) 17
def d_Monoid_check_number : He.DefD := ⟨("Monoid", some "_check_number"), "_check_number", "Monoid._check_number", defArgs s_Monoid_check_number, defBody s_Monoid_check_number, defScope s_Monoid_check_number, [], []⟩
abbrev s_Monoid_is_word_of : Stmt := inClass (top 12) 19
def d_Monoid_is_word_of : He.DefD := ⟨("Monoid", some "_is_word_of"), "_is_word_of", "Monoid._is_word_of", defArgs s_Monoid_is_word_of, defBody s_Monoid_is_word_of, defScope s_Monoid_is_word_of, [], []⟩
abbrev s_check_form : Stmt := top 13
def d_check_form : He.DefD := ⟨("_check_form", none), "_check_form", "_check_form", defArgs s_check_form, defBody s_check_form, defScope s_check_form, [], []⟩
abbrev s_made_by : Stmt := top 14
def d_made_by : He.DefD := ⟨("_made_by", none), "_made_by", "_made_by", defArgs s_made_by, defBody s_made_by, defScope s_made_by, [], []⟩
abbrev s_left_table : Stmt := top 15
def d_left_table : He.DefD := ⟨("_left_table", none), "_left_table", "_left_table", defArgs s_left_table, defBody s_left_table, defScope s_left_table, [], []⟩
abbrev s_check_products : Stmt := top 16
def d_check_products : He.DefD := ⟨("_check_products", none), "_check_products", "_check_products", defArgs s_check_products, defBody s_check_products, defScope s_check_products, [], []⟩
abbrev s_letters_of : Stmt := top 17
def d_letters_of : He.DefD := ⟨("_letters_of", none), "_letters_of", "_letters_of", defArgs s_letters_of, defBody s_letters_of, defScope s_letters_of, [], []⟩
abbrev s_end : Stmt := top 18
def d_end : He.DefD := ⟨("_end", none), "_end", "_end", defArgs s_end, defBody s_end, defScope s_end, [], []⟩
abbrev s_rests : Stmt := top 19
def d_rests : He.DefD := ⟨("_rests", none), "_rests", "_rests", defArgs s_rests, defBody s_rests, defScope s_rests, [], []⟩
abbrev s_L_source : Stmt := top 21
def d_L_source : He.DefD := ⟨("_law_source", none), "_law_source", "_law_source", defArgs s_L_source, defBody s_L_source, defScope s_L_source, [], []⟩
abbrev s_L_draw : Stmt := top 22
def d_L_draw : He.DefD := ⟨("_law_draw", none), "_law_draw", "_law_draw", defArgs s_L_draw, defBody s_L_draw, defScope s_L_draw, [], []⟩
abbrev s_L_pick : Stmt := top 23
def d_L_pick : He.DefD := ⟨("_law_pick", none), "_law_pick", "_law_pick", defArgs s_L_pick, defBody s_L_pick, defScope s_L_pick, [], []⟩
abbrev s_L_maps : Stmt := top 24
def d_L_maps : He.DefD := ⟨("_law_maps", none), "_law_maps", "_law_maps", defArgs s_L_maps, defBody s_L_maps, defScope s_L_maps, [], []⟩
abbrev s_L_table : Stmt := top 25
def d_L_table : He.DefD := ⟨("_law_table", none), "_law_table", "_law_table", defArgs s_L_table, defBody s_L_table, defScope s_L_table, [], []⟩
abbrev s_L_due : Stmt := top 26
def d_L_due : He.DefD := ⟨("_law_due", none), "_law_due", "_law_due", defArgs s_L_due, defBody s_L_due, defScope s_L_due, [], []⟩
abbrev s_L_parts : Stmt := top 27
def d_L_parts : He.DefD := ⟨("_law_parts", none), "_law_parts", "_law_parts", defArgs s_L_parts, defBody s_L_parts, defScope s_L_parts, [], []⟩
abbrev s_L_by_words : Stmt := top 28
def d_L_by_words : He.DefD := ⟨("_law_by_words", none), "_law_by_words", "_law_by_words", defArgs s_L_by_words, defBody s_L_by_words, defScope s_L_by_words, [], []⟩
abbrev s_L_right : Stmt := top 29
def d_L_right : He.DefD := ⟨("_law_right", none), "_law_right", "_law_right", defArgs s_L_right, defBody s_L_right, defScope s_L_right, [], []⟩
abbrev s_L_mixed : Stmt := top 30
def d_L_mixed : He.DefD := ⟨("_law_mixed", none), "_law_mixed", "_law_mixed", defArgs s_L_mixed, defBody s_L_mixed, defScope s_L_mixed, [], []⟩
abbrev s_law : Stmt := top 31
def d_law : He.DefD := ⟨("law", none), "law", "law", defArgs s_law, defBody s_law, defScope s_law, [], []⟩
def fn : List He.DefD := [d_is_number, d_is_between, d_is_sequence, d_NoNumber_init, d_NoMonoid_init, d_Monoid_init, d_Monoid_eq, d_Monoid_size, d_Monoid_words, d_Monoid_left, d_Monoid_times, d_Monoid_rules, d_Monoid_check_number, d_Monoid_is_word_of, d_check_form, d_made_by, d_left_table, d_check_products, d_letters_of, d_end, d_rests, d_L_source, d_L_draw, d_L_pick, d_L_maps, d_L_table, d_L_due, d_L_parts, d_L_by_words, d_L_right, d_L_mixed, d_law]
def fa : List He.Fa := [.glo "FoldError", .glo "NoNumber", .glo "NoMonoid", .glo "Monoid", .glo "is_number", .glo "is_between", .glo "is_sequence", .glo "_check_form", .glo "_made_by", .glo "_left_table", .glo "_check_products", .glo "_letters_of", .glo "_end", .glo "_rests", .glo "_law_source", .glo "_law_draw", .glo "_law_pick", .glo "_law_maps", .glo "_law_table", .glo "_law_due", .glo "_law_parts", .glo "_law_by_words", .glo "_law_right", .glo "_law_mixed", .glo "law", .int "MOST_SIZE" 2000, .str "LETTERS" "abcdef", .free "ValueError", .free "abs", .free "all", .free "bool", .free "dict", .free "enumerate", .free "int", .free "isinstance", .free "len", .free "list", .free "range", .free "sorted", .free "tuple", .free "zip", .cls "Monoid", .mkr "Monoid", .meth "Monoid" "__eq__", .meth "Monoid" "size", .meth "Monoid" "words", .meth "Monoid" "left", .meth "Monoid" "times", .meth "Monoid" "rules", .meth "Monoid" "_check_number", .meth "Monoid" "_is_word_of", .noat "Monoid" "right", .noat "Monoid" "_made", .noat "Monoid" "_left", .exm "NoNumber" "FoldError" true, .exm "NoNumber" "NoNumber" true, .exm "NoNumber" "NoMonoid" false, .exm "NoMonoid" "FoldError" true, .exm "NoMonoid" "NoNumber" false, .exm "NoMonoid" "NoMonoid" true]
def inis : List (Str × List Str) := [("NoNumber", ["number"]), ("NoMonoid", ["what", "place"])]
def bares : List Str := []
def owns : List Str := ["Monoid"]
def opsl : List Str := []
def iniB (K : PySem.W.Frag) (p : Str × List Str) : Bool := Lf.errB K (He.ga K p.1) && (decide (PySem.W.findIn K (.ref (He.ga K p.1)) "__init__" = some (some (.ref (He.ma K (He.ga K p.1) "__init__")))) &&
  (decide (PySem.W.typeIn K (.ref (He.ma K (He.ga K p.1) "__init__")) = some (.type "function")) && (p.2.all fun f => decide (PySem.W.findIn K (.ref (He.ga K p.1)) f = some none))))
def isB (K : PySem.W.Frag) (x : Str) : Bool := decide (PySem.W.kitOne K (.ref (He.ga K x)) (.ref (He.ga K "FoldError")) = some true)
/-- an own class among all: what isinstance says of its instances, and of others -/
def ownB (K : PySem.W.Frag) (x : Str) : Bool := decide (PySem.W.findIn K (.ref (He.ga K x)) "__class__" = some (some (.builtin "object.__class__"))) && (decide (PySem.W.specialIn K (.builtin "object.__class__") "__get__" = some (some (.builtin "getset_descriptor.__get__"))) &&
  (decide (PySem.W.takesIn K (.builtin "object.__class__") = some true) && (decide (PySem.W.mroIn K (He.ga K x) (.type "object") = some true) &&
  ((["int", "bool", "str", "list", "tuple"].all fun b => decide (PySem.W.kitOne K (.ref (He.ga K x)) (.type b) = some false)) && ((["NoneType", "int", "bool", "str", "list", "tuple", "dict"].all fun b => decide (PySem.W.kitOne K (.type b) (.ref (He.ga K x)) = some false)) &&
  owns.all fun y => decide (PySem.W.kitOne K (.ref (He.ga K x)) (.ref (He.ga K y)) = some (decide (x = y))))))))
def ex (K : PySem.W.Frag) : Bool := (inis.all fun p => iniB K p && isB K p.1) && ((bares.all fun x => Lf.errB K (He.ga K x) && isB K x) && ((owns.all fun x => ownB K x) && opsl.all fun x => Lf.opsB K (owns.map fun y => He.ga K y) (He.ga K x)))
def loose : List Str := (["_wall", "is_number", "is_between", "is_sequence", "FoldError", "NoNumber", "NoMonoid", "Monoid", "_check_form", "_made_by", "_left_table", "_check_products", "_letters_of", "_end", "_rests", "_law_source", "_law_draw", "_law_pick", "_law_maps", "_law_table", "_law_due", "_law_parts", "_law_by_words", "_law_right", "_law_mixed", "LETTERS", "MOST_SIZE"] : List Str)
def tf : List He.Defn := [("_law_due", none)]
end K18

set_option Elab.async false
set_option linter.all false
set_option maxRecDepth 100000
set_option maxHeartbeats 8000000
namespace K18
open PySem PySem.Spec PyProof.Rows L2 Lf
/-- a list or a tuple of xs at a -/
def Sq (K : PySem.W.Frag) (H : Hp) (a : Addr) (xs : List V) : Prop := SqL K H a xs ∨ SqT K H a xs
theorem Sq.same {K : PySem.W.Frag} {H H' : Hp} {a : Addr} {xs : List V} (h : Sq K H a xs) (e : Same H H') : Sq K H' a xs := h.imp (L2.Same.seq e) (Lf.SqT.same e)
theorem tyx_l {K : PySem.W.Frag} {H : Hp} {a : Addr} {xs : List V} (h : SqL K H a xs) : TyX K H (.ref a) (.type "list") := by
  rcases h with (h | ⟨o, h⟩) | ⟨o, its, n, hk, hc, _⟩
  · exact .base (.lst h)
  · exact .base (.frz h)
  · exact .kList hk hc
theorem tyx_t {K : PySem.W.Frag} {H : Hp} {a : Addr} {xs : List V} (h : SqT K H a xs) : TyX K H (.ref a) (.type "tuple") := by
  rcases h with (h | ⟨o, h⟩) | ⟨o, its, n, hk, hc, _⟩
  · exact .base (.tup h)
  · exact .fTuple h
  · exact .kTuple hk hc
theorem any_lt {K : PySem.W.Frag} : PySem.W.kitAny K (.type "list") [.type "list", .type "tuple"] = some true ∧ PySem.W.kitAny K (.type "tuple") [.type "list", .type "tuple"] = some true :=
  ⟨kitAny_cons (kit_ty (b := "list") (r := true) (by decide +kernel)) (fun h => nomatch h) (fun _ => rfl),
   kitAny_cons (kit_ty (b := "list") (r := false) (by decide +kernel)) (fun _ => kitAny_cons (kit_ty (b := "tuple") (r := true) (by decide +kernel)) (fun h => nomatch h) (fun _ => rfl)) (fun h => nomatch h)⟩
/-- whether it is an int; of what a row may hold -/
def Flat : V → Prop
  | .non => True
  | .bl _ => True
  | .int _ => True
  | .str _ => True
  | _ => False
def isNum : V → Bool
  | .int _ => true
  | _ => false
def ofInt : V → Bool
  | .int _ => true
  | .bl _ => true
  | _ => false
def ofBool : V → Bool
  | .bl _ => true
  | _ => false
theorem flat_ty {K : PySem.W.Frag} {H : Hp} {x : V} (h : Flat x) : ∃ n, TyX K H x (.type n) ∧ PySem.W.kitOne K (.type n) (.type "int") = some (ofInt x) ∧ PySem.W.kitOne K (.type n) (.type "bool") = some (ofBool x) := by
  cases x with
  | non => exact ⟨_, .base .non, kit_ty (show kitB "NoneType" "int" = some false by decide +kernel), kit_ty (show kitB "NoneType" "bool" = some false by decide +kernel)⟩
  | bl b => exact ⟨_, .base (.bl b), kit_ty (show kitB "bool" "int" = some true by decide +kernel), kit_ty (show kitB "bool" "bool" = some true by decide +kernel)⟩
  | int i => exact ⟨_, .base (.int i), kit_ty (show kitB "int" "int" = some true by decide +kernel), kit_ty (show kitB "int" "bool" = some false by decide +kernel)⟩
  | str s => exact ⟨_, .base (.str s), kit_ty (show kitB "str" "int" = some false by decide +kernel), kit_ty (show kitB "str" "bool" = some false by decide +kernel)⟩
  | byt _ => exact h.elim
  | flt _ => exact h.elim
  | ref _ => exact h.elim
  | ty _ => exact h.elim
def spNum : Sp := fun vs H Q _ => ∃ x, vs = [x] ∧ Flat x ∧ Q (.bl (isNum x)) H
/-- thing between least and most -/
def btw (lo hi : Int) : V → Bool
  | .int i => decide (lo ≤ i) && decide (i ≤ hi)
  | _ => false
def spBtw : Sp := fun vs H Q _ => ∃ x lo hi, vs = [x, .int lo, .int hi] ∧ Flat x ∧ Q (.bl (btw lo hi x)) H
def spSeq (K : PySem.W.Frag) : Sp := fun vs H Q _ => ∃ a xs lo hi, vs = [.ref a, .int lo, .int hi] ∧ Sq K H a xs ∧ ∀ H', Same H H' → Q (.bl (decide (lo ≤ (xs.length : Int)) && decide ((xs.length : Int) ≤ hi))) H'
section
variable {P : Program} {w : World} {K : PySem.W.Frag} {mg : Str → Option Value} {base : Heap}
theorem scNum : FnScope ["thing"] ["thing"] (defScope s_is_number) := ⟨rfl, rfl, rfl, by decide +kernel, rfl, by decide +kernel, by decide +kernel⟩
theorem ok_num {f : Addr} {fd : FuncData} {q : Str} (F : FunD K "is_number" q (defArgs s_is_number) (defBody s_is_number) (defScope s_is_number) [] [] f fd) (zI : mg "isinstance" = none) (zi : mg "int" = none) (zb : mg "bool" = none) :
    FnOk P w K mg base CX0 1 f fd ["thing"] spNum := by
  refine F.ok scNum (fun vs H Q E h => ?_) (fun cdv A outer s H vs Q E hr h => ?_)
  · obtain ⟨x, rfl, _⟩ := h
    rfl
  · obtain ⟨x, rfl, fx, k⟩ := h
    refine ⟨_, PSs.nox (pss_one (ps_ret (pe_and (pe_callB call_isi rfl zI PyProof.Rows.boot_isinstance (pa_cons (pv 0) (pa_cons (pe_bltn (v := .ty "int") rfl zi PyProof.Rows.boot_int rfl) pa_nil)))
      (pe_one (pe_not (pe_callB call_isi rfl zI PyProof.Rows.boot_isinstance (pa_cons (pv 0) (pa_cons (pe_bltn (v := .ty "bool") rfl zb PyProof.Rows.boot_bool rfl) pa_nil)))))))), ?_⟩
    obtain ⟨n, ty, k1, k2⟩ := flat_ty (K := K) (H := H) fx
    refine ⟨_, rfl, x, .ty "int", _, _, _, rfl, .ty _, ty, k1, _, rfl, ?_⟩
    cases x with
    | int i => exact ⟨_, rfl, _, .ty "bool", _, _, _, rfl, .ty _, ty, k2, _, rfl, k⟩
    | bl b => exact ⟨_, rfl, _, .ty "bool", _, _, _, rfl, .ty _, ty, k2, _, rfl, k⟩
    | non => exact k
    | str s => exact k
    | byt _ => exact fx.elim
    | flt _ => exact fx.elim
    | ref _ => exact fx.elim
    | ty _ => exact fx.elim
theorem scBtw : FnScope ["thing", "least", "most"] ["thing", "least", "most"] (defScope s_is_between) := ⟨rfl, rfl, rfl, by decide +kernel, rfl, by decide +kernel, by decide +kernel⟩
theorem ok_btw {f : Addr} {fd : FuncData} {q : Str} (F : FunD K "is_between" q (defArgs s_is_between) (defBody s_is_between) (defScope s_is_between) [] [] f fd) (DN : Def P w K mg base CX0 1 "is_number" ["thing"] spNum) :
    FnOk P w K mg base CX0 2 f fd ["thing", "least", "most"] spBtw := by
  refine F.ok scBtw (fun vs H Q E h => ?_) (fun cdv A outer s H vs Q E hr h => ?_)
  · obtain ⟨x, lo, hi, rfl, _⟩ := h
    rfl
  · obtain ⟨x, lo, hi, rfl, fx, k⟩ := h
    refine ⟨_, PSs.nox (pss_one (ps_ret (pe_and (pe_def DN hr pass0 rfl (pa_cons (pv 0) pa_nil)) (pe_one (pe_chain op_le op_le (pv 1) (pv 0) (pv 2)))))), ?_⟩
    refine ⟨_, rfl, x, rfl, fx, _, rfl, ?_⟩
    cases x with
    | int i =>
      refine ⟨_, rfl, _, rfl, _, _, rfl, rfl, _, rfl, ?_⟩
      refine ite2 (fun c => ⟨_, rfl, _, _, rfl, rfl, ?_⟩) (fun c => ?_)
      · have z : btw lo hi (.int i) = decide (i ≤ hi) := by show (decide (lo ≤ i) && decide (i ≤ hi)) = _; rw [c]; rfl
        rw [z] at k
        exact k
      · have z : btw lo hi (.int i) = false := by
          show (decide (lo ≤ i) && decide (i ≤ hi)) = false
          cases h : decide (lo ≤ i) with
          | true => exact absurd h c
          | false => rfl
        rw [z] at k
        exact k
    | bl b => exact k
    | non => exact k
    | str s => exact k
    | byt _ => exact fx.elim
    | flt _ => exact fx.elim
    | ref _ => exact fx.elim
    | ty _ => exact fx.elim
theorem scSeq : FnScope ["thing", "least", "most"] ["thing", "least", "most"] (defScope s_is_sequence) := ⟨rfl, rfl, rfl, by decide +kernel, rfl, by decide +kernel, by decide +kernel⟩
theorem ok_seq {f : Addr} {fd : FuncData} {q : Str} (F : FunD K "is_sequence" q (defArgs s_is_sequence) (defBody s_is_sequence) (defScope s_is_sequence) [] [] f fd) (zI : mg "isinstance" = none) (zl : mg "list" = none) (zt : mg "tuple" = none) (zn : mg "len" = none) :
    FnOk P w K mg base CX0 1 f fd ["thing", "least", "most"] (spSeq K) := by
  refine F.ok scSeq (fun vs H Q E h => ?_) (fun cdv A outer s H vs Q E hr h => ?_)
  · obtain ⟨a, xs, lo, hi, rfl, _⟩ := h
    rfl
  · obtain ⟨a, xs, lo, hi, rfl, sq, k⟩ := h
    refine ⟨_, PSs.nox (pss_one (ps_ret (pe_and (pe_callB call_isiT rfl zI PyProof.Rows.boot_isinstance (pa_cons (pv 0) (pa_cons (pe_tup (pa_cons (pe_bltn (v := .ty "list") rfl zl PyProof.Rows.boot_list rfl) (pa_cons (pe_bltn (v := .ty "tuple") rfl zt PyProof.Rows.boot_tuple rfl) pa_nil))) pa_nil)))
      (pe_one (pe_chain op_le op_le (pv 1) (pe_callB call_len_seq rfl zn boot_len (pa_cons (pv 0) pa_nil)) (pv 2)))))), ?_⟩
    refine ⟨_, rfl, (by show 2 ≤ sizeLine; decide), fun p np => ?_⟩
    have sm := same_upd (o := .tup [.ty "list", .ty "tuple"]) np
    have sq' := sq.same sm
    have ty : ∃ t, TyX K (upd H p (.tup [.ty "list", .ty "tuple"])) (.ref a) t ∧ PySem.W.kitAny K t [.type "list", .type "tuple"] = some true := by
      rcases sq' with z | z
      · exact ⟨_, tyx_l z, any_lt.1⟩
      · exact ⟨_, tyx_t z, any_lt.2⟩
    obtain ⟨t, ty, ka⟩ := ty
    refine ⟨.ref a, p, _, t, _, true, rfl, upd_same, .cons (.ty _) (.cons (.ty _) .nil), ty, ka, true, rfl, ?_⟩
    refine ifT rfl ⟨_, rfl, _, rfl, a, xs, rfl, sq', _, _, rfl, rfl, _, rfl, ?_⟩
    have kk := k _ sm
    refine ite2 (fun c => ⟨_, rfl, _, _, rfl, rfl, ?_⟩) (fun c => ?_)
    · rw [c] at kk
      exact kk
    · have z : decide (lo ≤ (xs.length : Int)) = false := by
        cases h : decide (lo ≤ (xs.length : Int)) with
        | true => exact absurd h c
        | false => rfl
      rw [z] at kk
      exact kk
end
end K18

set_option Elab.async false
set_option linter.all false
set_option maxRecDepth 100000
set_option maxHeartbeats 8000000
namespace K18
open PySem PySem.Spec PyProof.Rows L2 Lf
/-- a source of draws of which at most n were mixed -/
def Src (H : Hp) (l : Addr) (n : Nat) : Prop := ∃ a b c : Int, H l = some (.lst [.int a, .int b, .int c]) ∧ 0 ≤ a ∧ (0 ≤ b ∧ b < 2147483587) ∧ 0 ≤ c ∧ c ≤ n
theorem yesT {σ : L2.St} {H : Hp} {A B : Hp → Prop} (h : A H) : tYes σ H fun b H3 => if b = true then A H3 else B H3 := by
  show if true = true then A H else B H
  rw [if_pos rfl]
  exact h
theorem Src.up {H : Hp} {l : Addr} {n m : Nat} (h : Src H l n) (e : n ≤ m) : Src H l m := by
  obtain ⟨a, b, c, h1, h2, h3, h4, h5⟩ := h
  exact ⟨a, b, c, h1, h2, h3, h4, by omega⟩
theorem Src.same {H H' : Hp} {l : Addr} {n : Nat} (h : Src H l n) (e : Same H H') : Src H' l n := by
  obtain ⟨a, b, c, h1, h2⟩ := h
  exact ⟨a, b, c, e _ _ h1, h2⟩
theorem great_div {a m : Int} (m0 : 0 < m) (m1 : m ≤ 1000000000000000000000000000000) : CDivW a m := by
  have e : (2 : Nat) ^ 100 = 1267650600228229401496703205376 := by decide +kernel
  refine wide_div (b := 100) m0 ?_ (by decide) (by decide)
  rw [e]
  omega
def spSource : Sp := fun vs H Q _ => ∃ n : Int, vs = [.int n] ∧ ∀ l H', H l = none → Same H H' → Src H' l 0 → Q (.ref l) H'
def spDraw : Sp := fun vs H Q _ => ∃ (l : Addr) (n : Nat) (m : Int), vs = [.ref l, .int m] ∧ Src H l n ∧ n ≤ 1000000 ∧ 0 < m ∧ m ≤ 1000000000000000000000000000000 ∧ ∀ (k : Int) H', 0 ≤ k → k < m → But l H H' → Src H' l (n + 1) → Q (.int k) H'
section
variable {P : Program} {w : World} {K : PySem.W.Frag} {mg : Str → Option Value} {base : Heap}
theorem scSource : FnScope ["_law_cell"] ["_law_cell"] (defScope s_L_source) := ⟨rfl, rfl, rfl, by decide +kernel, rfl, by decide +kernel, by decide +kernel⟩
theorem ok_source {f : Addr} {fd : FuncData} {q : Str} (F : FunD K "_law_source" q (defArgs s_L_source) (defBody s_L_source) (defScope s_L_source) [] [] f fd) (zA : mg "abs" = none) (zI : mg "int" = none) :
    FnOk P w K mg base CX0 1 f fd ["_law_cell"] spSource := by
  refine F.ok scSource (fun vs H Q E h => ?_) (fun cdv A outer s H vs Q E hr h => ?_)
  · obtain ⟨n, rfl, _⟩ := h
    rfl
  · obtain ⟨n, rfl, k⟩ := h
    refine ⟨_, PSs.nox (pss_cons (ps_set (i := 0) scSource.nd rfl (.inl rfl) (pe_callB call_abs rfl zA boot_abs (pa_cons (pv 0) pa_nil)))
      (pss_one (ps_ret (pe_lst (pa_cons (pe_op op_mul (pv 0) (pe_callTy call_int1 rfl zI boot_int (pa_cons (pe_cmpR op_ge (pv 0) (pe_op op_pow pe_int pe_int) (nomark _)) pa_nil)))
        (pa_cons (pe_op op_mod (pe_callTy call_int1 rfl zI boot_int (pa_cons (pv 0) pa_nil)) pe_int)
        (pa_cons pe_int pa_nil))))))), ?_⟩
    refine ⟨_, rfl, n, rfl, ?_⟩
    have nn : 0 ≤ (if n < 0 then -n else n) := by split <;> omega
    generalize (if n < 0 then -n else n) = a at nn ⊢
    refine ⟨_, rfl, _, rfl, 10, 18, rfl, rfl, ⟨by decide, by decide, by decide⟩, a, _, rfl, rfl, .inr ⟨_, rfl, a, _, rfl, rfl, .inr ?_, ?_⟩⟩
    · split <;> decide
    refine ⟨_, rfl, .inl ⟨a, rfl, a, 2147483587, rfl, rfl, (show (0 : Int) < 2147483587 by decide), ?_⟩⟩
    refine ⟨(by show 3 ≤ sizeLine; decide), fun l hl => k l _ hl (same_upd hl) ⟨_, _, _, upd_same, ?_, ?_, by decide, by decide⟩⟩
    · split
      · omega
      · simp
    · constructor <;> omega
theorem scDraw : FnScope ["_law_source_here", "_law_many", "_law_digit", "_law_mixed_here"] ["_law_source_here", "_law_many"] (defScope s_L_draw) := ⟨rfl, rfl, rfl, by decide +kernel, rfl, by decide +kernel, by decide +kernel⟩
theorem ok_draw {f : Addr} {fd : FuncData} {q : Str} (F : FunD K "_law_draw" q (defArgs s_L_draw) (defBody s_L_draw) (defScope s_L_draw) [] [] f fd) (zI : mg "int" = none) :
    FnOk P w K mg base CX0 1 f fd ["_law_source_here", "_law_many"] spDraw := by
  refine F.ok scDraw (fun vs H Q E h => ?_) (fun cdv A outer s H vs Q E hr h => ?_)
  · obtain ⟨l, n, m, rfl, _⟩ := h
    rfl
  · obtain ⟨l, n, m, rfl, ⟨a, b, c, hl, ha, ⟨hb1, hb2⟩, hc1, hc2⟩, n1, m0, m1, k⟩ := h
    have gI (i : Int) := i
    refine ⟨_, PSs.nox (pss_cons (ps_if (pt_cmpR op_gt (pe_ix ix_list (pv 0) pe_int (fun _ _ => rfl)) pe_int (nomark _))
        (pss_cons (ps_set (i := 2) scDraw.nd rfl (.inl rfl) (pe_op op_mod (pe_callTy call_int1 rfl zI boot_int (pa_cons (pe_ix ix_list (pv 0) pe_int (fun _ _ => rfl)) pa_nil)) (pv 1)))
        (pss_cons (ps_asg (pe_op op_fdivW (pe_ix ix_list (pv 0) pe_int (fun _ _ => rfl)) (pv 1)) (pg_sub (pv 0) pe_int set_list))
        (pss_one (ps_ret (pv 2))))) pss_nil)
      (pss_cons (ps_asg (pe_op op_add (pe_ix ix_list (pv 0) pe_int (fun _ _ => rfl)) pe_int) (pg_sub (pv 0) pe_int set_list))
      (pss_cons (ps_set (i := 3) scDraw.nd rfl (.inl rfl) (pe_op op_mod (pe_callTy call_int1 rfl zI boot_int (pa_cons (pe_op op_mul (pe_op op_add (pe_op op_add (pe_ix ix_list (pv 0) pe_int (fun _ _ => rfl)) (pe_op op_mul pe_int (pe_ix ix_list (pv 0) pe_int (fun _ _ => rfl)))) pe_int) pe_int) pa_nil)) pe_int))
      (pss_cons (ps_set (i := 3) scDraw.nd rfl (.inl rfl) (pe_op op_mod (pe_callTy call_int1 rfl zI boot_int (pa_cons (pe_op op_mul (pv 3) (pe_op op_add (pe_op op_fdiv (pv 3) pe_int) pe_int)) pa_nil)) pe_int))
      (pss_one (ps_ret (pe_op op_mod (pe_callTy call_int1 rfl zI boot_int (pa_cons (pe_op op_fdiv (pe_op op_mod (pe_callTy call_int1 rfl zI boot_int (pa_cons (pe_op op_mul (pv 3) (pe_op op_add (pe_op op_fdiv (pv 3) pe_int) pe_int)) pa_nil)) pe_int) pe_int) pa_nil)) (pv 1)))))))), ?_⟩
    have at0 : atI [V.int a, V.int b, V.int c] 0 = some (.int a) := rfl
    refine ⟨_, rfl, l, _, 0, _, rfl, rfl, SqL.of hl, at0, a, 0, rfl, rfl, _, rfl, ?_⟩
    refine ite2 (fun h0 => ?_) (fun h0 => ?_)
    · refine ⟨_, rfl, l, _, 0, _, rfl, rfl, SqL.of hl, at0, .inl ⟨a, rfl, _, rfl, a, m, rfl, rfl, m0, ?_⟩⟩
      refine ⟨_, rfl, l, _, 0, _, rfl, rfl, SqL.of hl, at0, _, rfl, a, m, rfl, rfl, great_div m0 m1, ?_⟩
      refine ⟨_, rfl, l, _, 0, 0, rfl, rfl, hl, rfl, ?_⟩
      exact ⟨_, rfl, k _ _ (Int.emod_nonneg _ (by omega)) (Int.emod_lt_of_pos _ m0) But.upd ⟨_, b, c, upd_same, Int.ediv_nonneg ha (by omega), ⟨hb1, hb2⟩, hc1, by omega⟩⟩
    · have at2 : atI [V.int a, V.int b, V.int c] 2 = some (.int c) := rfl
      have at1' : atI [V.int a, V.int b, V.int (c + 1)] 1 = some (.int b) := rfl
      have at2' : atI [V.int a, V.int b, V.int (c + 1)] 2 = some (.int (c + 1)) := rfl
      refine ⟨_, rfl, l, _, 2, _, rfl, rfl, SqL.of hl, at2, c, 1, rfl, rfl, _, rfl, l, _, 2, 2, rfl, rfl, hl, rfl, ?_⟩
      have hl' : L2.upd H l (.lst [V.int a, V.int b, V.int (c + 1)]) l = some (.lst [V.int a, V.int b, V.int (c + 1)]) := upd_same
      have bt : But l H (L2.upd H l (.lst [V.int a, V.int b, V.int (c + 1)])) := But.upd
      refine ⟨_, rfl, l, _, 1, _, rfl, rfl, SqL.of hl', at1', _, rfl, l, _, 2, _, rfl, rfl, SqL.of hl', at2', 7919, (c + 1), rfl, rfl, .inl ⟨by omega, by omega⟩, b, _, rfl, rfl, _, 13, rfl, rfl, _, 48271, rfl, rfl, .inl ⟨by omega, by omega⟩, .inl ⟨_, rfl, _, 2147483629, rfl, rfl, (show (0 : Int) < 2147483629 by decide), ?_⟩⟩
      generalize hz : (b + 7919 * (c + 1) + 13) * 48271 = z
      have z1 : 0 ≤ z % 2147483629 := Int.emod_nonneg _ (by decide)
      have z2 : z % 2147483629 < 2147483629 := Int.emod_lt_of_pos _ (by decide)
      obtain ⟨u, hu⟩ : ∃ u, z % 2147483629 = u := ⟨_, rfl⟩
      rw [hu] at z1 z2
      refine ⟨_, rfl, _, rfl, u, 1019, congrArg V.int hu, rfl, ⟨by decide, by decide⟩, _, 69621, rfl, rfl, u, _, congrArg V.int hu, rfl, .inl ⟨by omega, by omega⟩, .inl ⟨_, rfl, _, 2147483579, rfl, rfl, (show (0 : Int) < 2147483579 by decide), ?_⟩⟩
      generalize hy : u * (u / 1019 + 69621) = y
      have y1 : 0 ≤ y % 2147483579 := Int.emod_nonneg _ (by decide)
      have y2 : y % 2147483579 < 2147483579 := Int.emod_lt_of_pos _ (by decide)
      obtain ⟨v, hv⟩ : ∃ v, y % 2147483579 = v := ⟨_, rfl⟩
      rw [hv] at y1 y2
      refine ⟨_, rfl, _, rfl, v, 2003, congrArg V.int hv, rfl, ⟨by decide, by decide⟩, _, 40692, rfl, rfl, v, _, congrArg V.int hv, rfl, .inl ⟨by omega, by omega⟩, .inl ⟨_, rfl, _, 2147483549, rfl, rfl, (show (0 : Int) < 2147483549 by decide), ?_⟩⟩
      refine ⟨_, 3, rfl, rfl, ⟨by decide, by decide⟩, .inl ⟨_, rfl, _, rfl, _, m, rfl, rfl, m0, ?_⟩⟩
      exact k _ _ (Int.emod_nonneg _ (by omega)) (Int.emod_lt_of_pos _ m0) But.upd ⟨a, b, c + 1, upd_same, ha, ⟨hb1, hb2⟩, by omega, by omega⟩
end
end K18

set_option Elab.async false
set_option linter.all false
set_option maxRecDepth 100000
set_option maxHeartbeats 8000000
namespace K18
open PySem PySem.Spec PyProof.Rows L2 Lf
/-- what the head says, for one module -/
structure Txt (P : Program) (w : World) (K : PySem.W.Frag) (mg : Str → Option Value) (base : Heap) : Prop where
  d : He.SaysD fa fn K
  m : ex K = true
  gl : ∀ (i : Nat) (x : Str), fa[i]? = some (.glo x) → mg x = some (.ref (He.ga K x))
  fr : ∀ (i : Nat) (x : Str), fa[i]? = some (.free x) → mg x = none
  it : ∀ (i : Nat) (x : Str) (v : Int), fa[i]? = some (.int x v) → ∃ t, mg x = some (.int v t)
  st : ∀ (i : Nat) (x v : Str), fa[i]? = some (.str x v) → ∃ t, mg x = some (.str v t)
theorem pe_gstr {X : Cx} {x v : Str} {t : Tok} {pos : Pos} (hg : Gl X x) (hm : X.mg x = some (.str v t)) (hd : (x == ("__debug__" : Str)) = false := by decide +kernel) : PE X (.Name x pos) (tC (.str v)) := pe_glob hg hm ⟨t, rfl⟩ hd
/-- numbers as values -/
abbrev nv (i : Nat) : V := .int (i : Nat)
/-- the rows at r: lists -/
structure RowsL (K : PySem.W.Frag) (H : Hp) (r : Addr) (rows : List (List Nat)) : Prop where
  ex : ∃ as : List Addr, SqL K H r (as.map V.ref) ∧ as.length = rows.length ∧ ∀ (i : Nat) a row, as[i]? = some a → rows[i]? = some row → SqL K H a (row.map nv)
/-- .. tuples -/
structure RowsT (K : PySem.W.Frag) (H : Hp) (r : Addr) (rows : List (List Nat)) : Prop where
  ex : ∃ as : List Addr, SqT K H r (as.map V.ref) ∧ as.length = rows.length ∧ ∀ (i : Nat) a row, as[i]? = some a → rows[i]? = some row → SqT K H a (row.map nv)
theorem RowsL.same {K : PySem.W.Frag} {H H' : Hp} {r : Addr} {rows : List (List Nat)} (h : RowsL K H r rows) (e : Same H H') : RowsL K H' r rows := by
  obtain ⟨as, a, b, c⟩ := h.ex
  exact ⟨as, L2.Same.seq e a, b, fun i x row h1 h2 => L2.Same.seq e (c i x row h1 h2)⟩
theorem RowsT.same {K : PySem.W.Frag} {H H' : Hp} {r : Addr} {rows : List (List Nat)} (h : RowsT K H r rows) (e : Same H H') : RowsT K H' r rows := by
  obtain ⟨as, a, b, c⟩ := h.ex
  exact ⟨as, Lf.SqT.same e a, b, fun i x row h1 h2 => Lf.SqT.same e (c i x row h1 h2)⟩
theorem map_get {α β : Type} {f : α → β} {l : List α} {i : Nat} {y : β} (h : (l.map f)[i]? = some y) : ∃ a, l[i]? = some a ∧ y = f a := by
  rw [List.getElem?_map] at h
  cases e : l[i]? with
  | none => rw [e] at h; cases h
  | some a => rw [e] at h; exact ⟨a, rfl, (Option.some.inj h).symm⟩
theorem get_map {α β : Type} {f : α → β} {l : List α} {i : Nat} {a : α} (h : l[i]? = some a) : (l.map f)[i]? = some (f a) := by rw [List.getElem?_map, h]; rfl
theorem get_lt {α : Type} {l : List α} {i : Nat} {a : α} (h : l[i]? = some a) : i < l.length := (List.getElem?_eq_some_iff.mp h).1
theorem lt_get {α : Type} {l : List α} {i : Nat} (h : i < l.length) : ∃ a, l[i]? = some a := ⟨_, List.getElem?_eq_getElem h⟩
theorem seq_dec {lo hi : Int} {n : Nat} (a : lo ≤ (n : Int)) (b : (n : Int) ≤ hi) : (decide (lo ≤ (n : Int)) && decide ((n : Int) ≤ hi)) = true := by
  rw [decide_eq_true a, decide_eq_true b]
  rfl
theorem btw_nv {i n : Nat} (h : i < n) : btw 0 ((n : Int) - 1) (nv i) = true := by
  show (decide ((0 : Int) ≤ (i : Nat)) && decide (((i : Nat) : Int) ≤ (n : Int) - 1)) = true
  rw [decide_eq_true (by omega), decide_eq_true (by omega)]
  rfl
theorem all_true {n : Nat} : (List.replicate n true).all id = true := by
  rw [List.all_eq_true]
  intro x hx
  exact (List.mem_replicate.mp hx).2
/-- the form of a table -/
def Form (rows : List (List Nat)) (w : Nat) : Prop := 1 ≤ rows.length ∧ rows.length ≤ 2000 ∧ 1 ≤ w ∧ w ≤ 6 ∧ ∀ row ∈ rows, row.length = w ∧ ∀ t ∈ row, t < rows.length
def spForm (K : PySem.W.Frag) : Sp := fun vs H Q _ => ∃ r rows w, vs = [.ref r] ∧ RowsL K H r rows ∧ Form rows w ∧ ∀ H', Same H H' → Q .non H'
abbrev rLenS (K : PySem.W.Frag) : List V → Hp → VK → Prop := fun xs H Q => ∃ p ys, xs = [V.ref p] ∧ (SqL K H p ys ∨ SqT K H p ys) ∧ Q (V.int ys.length) H
abbrev teForm (K : PySem.W.Frag) : TE := fun σ H Q => (tCons (tVar 3) (tCons (tC (.int 0)) (tCons (tOp (rI0 fun i j => .int (i - j)) (tCB (rLenS K) (tCons (tVar 0) tNil)) (tC (.int 1))) tNil))) σ H fun vs H1 => spBtw vs H1 Q E0
section
variable {P : Program} {w : World} {K : PySem.W.Frag} {mg : Str → Option Value} {base : Heap}
theorem scForm : FnScope ["right", "place", "row", "entry"] ["right"] (defScope s_check_form) := ⟨rfl, rfl, rfl, by decide +kernel, rfl, by decide +kernel, by decide +kernel⟩
theorem ok_form {f : Addr} {fd : FuncData} {q : Str} (F : FunD K "_check_form" q (defArgs s_check_form) (defBody s_check_form) (defScope s_check_form) [] [] f fd) (T : Txt P w K mg base)
    (DS : Def P w K mg base CX0 1 "is_sequence" ["thing", "least", "most"] (spSeq K)) (DB : Def P w K mg base CX0 2 "is_between" ["thing", "least", "most"] spBtw) :
    FnOk P w K mg base CX0 3 f fd ["right"] (spForm K) := by
  obtain ⟨tM, gM⟩ := T.it 25 "MOST_SIZE" 2000 rfl
  obtain ⟨tL, gL⟩ := T.st 26 "LETTERS" "abcdef" rfl
  have zE : mg "enumerate" = none := T.fr 32 "enumerate" rfl
  have zn : mg "len" = none := T.fr 35 "len" rfl
  have za : mg "all" = none := T.fr 29 "all" rfl
  refine F.ok scForm (fun vs H Q E h => ?_) (fun cdv A outer s H vs Q E hr h => ?_)
  · obtain ⟨r, rows, wd, rfl, _⟩ := h
    rfl
  · obtain ⟨r, rows, wd, rfl, R, ⟨n1, n2, w1, w6, row⟩, k⟩ := h
    have r1 : Room 1 _ := hr.mono (by decide)
    refine ⟨_, PSs.nox (pss_cons (ps_if (pt_not (pt_val (pe_def DS r1 pass0 rfl (pa_cons (pv 0) (pa_cons pe_int (pa_cons (pe_gint rfl gM) pa_nil)))))) (pss_one ps_never) pss_nil)
      (pss_one (ps_for PassesOwn.never rfl (pi_enumA rfl zE (pv 0)) (pg_tup rfl (pgs_cons (pg_name (i := 1) scForm.nd rfl (.inl rfl)) (pgs_cons (pg_name (i := 2) scForm.nd rfl (.inl rfl)) pgs_nil)))
        (pss_cons (ps_if (PW.pt (pw_or (pt_not (pt_val (pe_def DS r1 pass0 rfl (pa_cons (pv 2) (pa_cons pe_int (pa_cons (pe_callB call_len_str rfl zn boot_len (pa_cons (pe_gstr rfl gL) pa_nil)) pa_nil))))))
            (pw_or1 (pt_cmpR op_ne (pe_callB call_len_seq rfl zn boot_len (pa_cons (pv 2) pa_nil)) (pe_callB call_len_seq rfl zn boot_len (pa_cons (pe_ix ix_list (pv 0) pe_int (fun _ _ => rfl)) pa_nil)) (nomark _))))) (pss_one ps_never) pss_nil)
        (pss_one (ps_if (pt_not (pt_val (pe_callB (cr_all rfl) rfl za (by decide +kernel) (pa_cons (pe_lc (own := [("entry", 3)]) (g := gName 3) (te := teForm K) (by rfl) scForm.nd (pi_list (pv 2)) (blkOk_by (own := [("entry", 3)]) (N := ["right", "place", "row", "entry"]) (sc := defScope s_check_form) (by decide +kernel)) (fun _ _ _ _ _ => pg_name (i := 3) scForm.nd rfl (Or.inl rfl)) (fun _ _ _ _ _ => pts_nil)
            (fun _ _ _ _ _ => by exact pe_def DB hr pass0 rfl (pa_cons (pv 3) (pa_cons pe_int (pa_cons (pe_op op_sub (pe_callB call_len_seq rfl zn boot_len (pa_cons (pv 0) pa_nil)) pe_int) pa_nil))))) pa_nil)))) (pss_one ps_never) pss_nil)))))), ?_⟩
    obtain ⟨as, sr, la, srow⟩ := R.ex
    have ln : (as.map V.ref).length = rows.length := by rw [List.length_map, la]
    refine ⟨_, rfl, r, as.map V.ref, 1, 2000, rfl, .inl sr, fun H1 s1 => ⟨_, rfl, ?_⟩⟩
    rw [seq_dec (by omega) (by omega)]
    refine ifF rfl ?_
    refine ⟨_, rfl, r, as.map V.ref, rfl, .inl ⟨L2.Same.seq s1 sr, ?_⟩⟩
    have wk : Walk (Ite K r) (as.map V.ref).length (fun H2 => Same H H2) (fun i H v H' => ∃ T x, v = .ref T ∧ H T = none ∧ H' = L2.upd H T (.tup [.int (i : Nat), x]) ∧ (as.map V.ref)[i]? = some x) := (walk_enumL (xs := as.map V.ref)).mono (fun H s => L2.Same.seq s sr) (fun i H x H' _ _ y => y)
    refine for_it wk (fun i σ H2 => ∃ v1 v2 : Option V, σ = [some (.ref r), v1, v2, none] ∧ Same H H2) ⟨none, none, rfl, s1⟩ (fun i σ H2 _ ⟨_, _, _, s⟩ => s) ?_ ?_
    · rintro i x σ H2 H3 hi ⟨v1, v2, rfl, s2⟩ ⟨T', y, rfl, nT, rfl, hy⟩
      obtain ⟨a, ha, rfl⟩ := map_get hy
      have hi2 : i < rows.length := by rw [← ln]; exact hi
      obtain ⟨rw_, hrw⟩ := lt_get hi2
      have sa := srow i a rw_ ha hrw
      obtain ⟨lw, ent⟩ := row rw_ (List.mem_of_getElem? hrw)
      refine ⟨T', _, rfl, SqT.of upd_same, rfl, _, _, rfl, _, _, rfl, rfl, ?_⟩
      have s3 := s2.trans (same_upd (o := .tup [.int (i : Nat), .ref a]) nT)
      generalize L2.upd H2 T' (.tup [.int (i : Nat), .ref a]) = H3 at s3 ⊢
      refine ⟨_, rfl, _, rfl, (by decide +kernel), a, rw_.map nv, 1, 6, rfl, .inl (L2.Same.seq s3 sa), fun H4 s4 => ⟨_, rfl, ?_⟩⟩
      rw [List.length_map, seq_dec (by omega) (by omega)]
      refine ifF rfl ?_
      have s5 := s3.trans s4
      obtain ⟨a0, h0⟩ := lt_get (show 0 < as.length by omega)
      obtain ⟨rw0, hrw0⟩ := lt_get (show 0 < rows.length by omega)
      have lw0 := (row rw0 (List.mem_of_getElem? hrw0)).1
      refine ⟨_, rfl, a, rw_.map nv, rfl, .inl (L2.Same.seq s5 sa), _, rfl, r, as.map V.ref, 0, .ref a0, rfl, rfl, L2.Same.seq s5 sr, ?_, a0, rw0.map nv, rfl, .inl (L2.Same.seq s5 (srow 0 a0 rw0 h0 hrw0)), rfl, _, rfl, ?_⟩
      · exact atI_nat (j := 0) (get_map h0)
      refine ifF (by simp [lw, lw0]) ?_
      refine ⟨_, rfl, a, rfl, ⟨_, L2.Same.seq s5 sa⟩, fun D nD => ?_⟩
      refine lc_list (K := K) (a := a) (xs := rw_.map nv) (fun j Hc => But D H4 Hc ∧ Hc D = some (.lst (List.replicate j (V.bl true)))) ⟨But.upd, upd_same⟩ (fun j Hc _ ⟨bc, _⟩ => L2.Same.seq (Same.but (L2.Same.refl _) nD bc) (L2.Same.seq s5 sa)) (fun j z Hc hz ⟨bc, hD⟩ => ?_) (fun Hc ⟨bc, hD⟩ => ?_)
      · obtain ⟨t, ht, rfl⟩ := map_get hz
        refine ⟨rfl, yesT ?_⟩
        have sc := s5.trans (Same.but (L2.Same.refl _) nD bc)
        refine ⟨_, rfl, _, rfl, r, as.map V.ref, rfl, .inl (L2.Same.seq sc sr), _, 1, rfl, rfl, nv t, 0, _, rfl, True.intro, ?_⟩
        rw [ln, btw_nv (ent t (List.mem_of_getElem? ht))]
        refine ⟨_, hD, ?_, But.trans bc But.upd, ?_⟩
        · rw [List.length_replicate]
          have := get_lt ht
          show j < 16777216
          omega
        · rw [upd_same, List.replicate_succ']
      · rw [List.length_map] at hD
        have sc := s5.trans (Same.but (L2.Same.refl _) nD bc)
        refine ⟨D, List.replicate rw_.length true, rfl, SqL.of (by rw [List.map_replicate]; exact hD), ?_⟩
        rw [all_true]
        refine ⟨_, rfl, ?_⟩
        exact ifF rfl ⟨_, _, rfl, sc⟩
    · rintro σ H2 ⟨v1, v2, rfl, s2⟩
      exact k _ s2
end
end K18

set_option Elab.async false
set_option linter.all false
set_option maxRecDepth 100000
set_option maxHeartbeats 8000000
namespace K18
open PySem PySem.Spec PyProof.Rows L2 Lf
/-- how the elements are made: a tuple of None and pairs -/
structure MadeT (K : PySem.W.Frag) (H : Hp) (t : Addr) (m : List (Nat × Nat)) : Prop where
  ex : ∃ ps : List Addr, SqT K H t (.non :: ps.map V.ref) ∧ ps.length = m.length ∧ ∀ (k : Nat) a p, ps[k]? = some a → m[k]? = some p → SqT K H a [nv p.1, nv p.2]
theorem MadeT.same {K : PySem.W.Frag} {H H' : Hp} {t : Addr} {m : List (Nat × Nat)} (h : MadeT K H t m) (e : Same H H') : MadeT K H' t m := by
  obtain ⟨ps, a, b, c⟩ := h.ex
  exact ⟨ps, Lf.SqT.same e a, b, fun k x p h1 h2 => Lf.SqT.same e (c k x p h1 h2)⟩
/-- .. the list that grows -/
def MadeL (H : Hp) (M : Addr) (m : List (Nat × Nat)) : Prop := ∃ ps : List Addr, H M = some (.lst (.non :: ps.map V.ref)) ∧ ps.length = m.length ∧ ∀ (k : Nat) a p, ps[k]? = some a → m[k]? = some p → H a = some (.tup [nv p.1, nv p.2])
theorem MadeL.same {H H' : Hp} {M : Addr} {m : List (Nat × Nat)} (h : MadeL H M m) (e : Same H H') : MadeL H' M m := by
  obtain ⟨ps, a, b, c⟩ := h
  exact ⟨ps, e _ _ a, b, fun k x p h1 h2 => e _ _ (c k x p h1 h2)⟩
def spMade (K : PySem.W.Frag) : Sp := fun vs H Q _ => ∃ r rows m, vs = [.ref r] ∧ RowsT K H r rows ∧ Mon.madeTab 0 rows [] = some m ∧ m.length ≤ 2000 ∧ ∀ t H', Same H H' → MadeT K H' t m → Q (.ref t) H'
theorem len_grow {rows : List (List Nat)} {m m' : List (Nat × Nat)} {i : Nat} (h : Mon.madeTab 0 rows [] = some m) (h' : Mon.madeTab 0 (rows.take i) [] = some m') : m'.length ≤ m.length := by
  have e := List.take_append_drop i rows
  rw [← e, Mon.madeTab_app, h', Option.bind_some] at h
  obtain ⟨x, hx, _⟩ := Mon.madeTab_ok h
  rw [hx, List.length_append]
  omega
theorem len_growR {row : List Nat} {m m2 m' : List (Nat × Nat)} {i c : Nat} (h : Mon.madeRow i 0 row m = some m2) (h' : Mon.madeRow i 0 (row.take c) m = some m') : m'.length ≤ m2.length := by
  have e := List.take_append_drop c row
  rw [← e, Mon.madeRow_app, h', Option.bind_some] at h
  obtain ⟨x, hx, _⟩ := Mon.madeRow_ok h
  rw [hx, List.length_append]
  omega
section
variable {P : Program} {w : World} {K : PySem.W.Frag} {mg : Str → Option Value} {base : Heap}
theorem scMade : FnScope ["right", "made", "number", "row", "letter", "reached"] ["right"] (defScope s_made_by) := ⟨rfl, rfl, rfl, by decide +kernel, rfl, by decide +kernel, by decide +kernel⟩
theorem ok_made {f : Addr} {fd : FuncData} {q : Str} (F : FunD K "_made_by" q (defArgs s_made_by) (defBody s_made_by) (defScope s_made_by) [] [] f fd) (T : Txt P w K mg base) :
    FnOk P w K mg base CX0 1 f fd ["right"] (spMade K) := by
  have zE : mg "enumerate" = none := T.fr 32 "enumerate" rfl
  have zn : mg "len" = none := T.fr 35 "len" rfl
  have zt : mg "tuple" = none := T.fr 39 "tuple" rfl
  refine F.ok scMade (fun vs H Q E h => ?_) (fun cdv A outer s H vs Q E hr h => ?_)
  · obtain ⟨r, rows, m, rfl, _⟩ := h
    rfl
  · obtain ⟨r, rows, m, rfl, R, hm, lm, k⟩ := h
    refine ⟨_, PSs.nox (pss_cons (ps_set (i := 1) scMade.nd rfl (.inl rfl) (pe_lst (pa_cons pe_non pa_nil)))
      (pss_cons (ps_for PassesOwn.never rfl (pi_enumA rfl zE (pv 0)) (pg_tup rfl (pgs_cons (pg_name (i := 2) scMade.nd rfl (.inl rfl)) (pgs_cons (pg_name (i := 3) scMade.nd rfl (.inl rfl)) pgs_nil)))
        (pss_cons (ps_if (pt_cmpR op_ge (pv 2) (pe_callB call_len_seq rfl zn boot_len (pa_cons (pv 1) pa_nil)) (nomark _)) (pss_one ps_never) pss_nil)
        (pss_one (ps_for PassesOwn.never rfl (pi_enumA rfl zE (pv 3)) (pg_tup rfl (pgs_cons (pg_name (i := 4) scMade.nd rfl (.inl rfl)) (pgs_cons (pg_name (i := 5) scMade.nd rfl (.inl rfl)) pgs_nil)))
          (pss_cons (ps_if (pt_cmpR op_gt (pv 5) (pe_callB call_len_seq rfl zn boot_len (pa_cons (pv 1) pa_nil)) (nomark _)) (pss_one ps_never) pss_nil)
          (pss_one (ps_if (pt_cmpR op_eq (pv 5) (pe_callB call_len_seq rfl zn boot_len (pa_cons (pv 1) pa_nil)) (nomark _))
            (pss_one (ps_expr (pe_bm PySem.F.plainAttrs_list PySem.F.slot_list_append PySem.F.type_list_append mt_append (pv 1) (pa_cons (pe_tup (pa_cons (pv 2) (pa_cons (pv 4) pa_nil))) pa_nil)))) pss_nil)))))))
      (pss_one (ps_ret (pe_callTy call_tuple_of rfl zt PyProof.Rows.boot_tuple (pa_cons (pv 1) pa_nil)))))), ?_⟩
    obtain ⟨as, sr, la, srow⟩ := R.ex
    have ln : (as.map V.ref).length = rows.length := by rw [List.length_map, la]
    refine ⟨(by show 1 ≤ sizeLine; decide), fun M nM => ?_⟩
    have s1 := same_upd (o := .lst [V.non]) nM
    have m1 : MadeL (L2.upd H M (.lst [V.non])) M [] := ⟨[], upd_same, rfl, fun k a p h => by simp at h⟩
    generalize L2.upd H M (.lst [V.non]) = H1 at s1 m1 ⊢
    refine ⟨_, rfl, r, as.map V.ref, rfl, .inr ⟨Lf.SqT.same s1 sr, ?_⟩⟩
    have wk : Walk (Itet K r) (as.map V.ref).length (fun H2 => Same H H2) (fun i H v H' => ∃ T x, v = .ref T ∧ H T = none ∧ H' = L2.upd H T (.tup [.int (i : Nat), x]) ∧ (as.map V.ref)[i]? = some x) := (walk_enumT (xs := as.map V.ref)).mono (fun H s => Lf.SqT.same s sr) (fun i H x H' _ _ y => y)
    refine for_it wk (fun i σ H2 => ∃ v2 v3 v4 v5 : Option V, σ = [some (.ref r), some (.ref M), v2, v3, v4, v5] ∧ Same H H2 ∧ ∃ m', Mon.madeTab 0 (rows.take i) [] = some m' ∧ MadeL H2 M m') ⟨none, none, none, none, rfl, s1, [], by simp [Mon.madeTab], m1⟩ (fun i σ H2 _ ⟨_, _, _, _, _, s, _⟩ => s) ?_ ?_
    · rintro i x σ H2 H3 hi ⟨v2, v3, v4, v5, rfl, s2, m', hm', ml⟩ ⟨T', y, rfl, nT, rfl, hy⟩
      obtain ⟨a, ha, rfl⟩ := map_get hy
      have hi2 : i < rows.length := by rw [← ln]; exact hi
      obtain ⟨row, hrow⟩ := lt_get hi2
      have sa := srow i a row ha hrow
      obtain ⟨m0, e0, i0, m2, e2, e3⟩ := Mon.madeTab_at hm hrow
      rw [hm'] at e0
      cases e0
      have l2 := len_grow hm e3
      refine ⟨T', _, rfl, SqT.of upd_same, rfl, _, _, rfl, _, _, rfl, rfl, ?_⟩
      have u3 := same_upd (o := .tup [.int (i : Nat), .ref a]) nT
      have s3 := s2.trans u3
      have ml3 := ml.same u3
      generalize L2.upd H2 T' (.tup [.int (i : Nat), .ref a]) = H3 at s3 ml3 ⊢
      clear u3 ml
      obtain ⟨ps, hM, lp, _⟩ := id ml3
      refine ⟨_, rfl, _, rfl, M, _, rfl, .inl (SqL.of hM), _, _, rfl, rfl, _, rfl, ?_⟩
      refine ifF (by rw [decide_eq_false]; simp; omega) ?_
      clear hM lp
      have sa3 := Lf.SqT.same s3 sa
      refine ⟨_, rfl, a, row.map nv, rfl, .inr ⟨sa3, ?_⟩⟩
      have wk2 : Walk (Itet K a) (row.map nv).length (fun H2 => Same H H2) (fun i H v H' => ∃ T x, v = .ref T ∧ H T = none ∧ H' = L2.upd H T (.tup [.int (i : Nat), x]) ∧ (row.map nv)[i]? = some x) := (walk_enumT (xs := row.map nv)).mono (fun H s => Lf.SqT.same s sa) (fun i H x H' _ _ y => y)
      refine for_it wk2 (fun j σ H4 => ∃ v4 v5 : Option V, σ = [some (.ref r), some (.ref M), some (nv i), some (.ref a), v4, v5] ∧ Same H H4 ∧ ∃ m'', Mon.madeRow i 0 (row.take j) m' = some m'' ∧ MadeL H4 M m'') ⟨_, _, rfl, s3, m', by simp [Mon.madeRow], ml3⟩ (fun j σ H4 _ ⟨_, _, _, s, _⟩ => s) ?_ ?_
      · rintro j x σ H4 H5 hj ⟨v4, v5, rfl, s4, m4, hm4, ml4⟩ ⟨T2, y, rfl, nT2, rfl, hy2⟩
        obtain ⟨t, ht, rfl⟩ := map_get hy2
        obtain ⟨m5, e5, t5, e6⟩ := Mon.madeRow_at e2 ht
        rw [hm4] at e5
        cases e5
        have l4 := len_growR e2 hm4
        refine ⟨T2, _, rfl, SqT.of upd_same, rfl, _, _, rfl, _, _, rfl, rfl, ?_⟩
        have u5 := same_upd (o := .tup [.int (j : Nat), nv t]) nT2
        have s5 := s4.trans u5
        have ml5 := ml4.same u5
        generalize L2.upd H4 T2 (.tup [.int (j : Nat), nv t]) = H5 at s5 ml5 ⊢
        clear u5 ml4
        obtain ⟨ps, hM, lp, pp⟩ := id ml5
        have len : (V.non :: ps.map V.ref).length = m4.length + 1 := by rw [List.length_cons, List.length_map, lp]
        refine ⟨_, rfl, _, rfl, M, _, rfl, .inl (SqL.of hM), _, _, rfl, rfl, _, rfl, ?_⟩
        refine ifF (by rw [decide_eq_false]; rw [len]; omega) ?_
        refine ⟨_, rfl, _, rfl, M, _, rfl, .inl (SqL.of hM), rfl, _, rfl, ?_⟩
        refine ite2 (fun c => ?_) (fun c => ?_)
        · have ct : t = m4.length + 1 := by
            have := of_decide_eq_true c
            rw [len] at this
            injection this with this
            omega
          rw [if_pos ct] at e6
          refine ⟨_, rfl, .inl ⟨rfl, _, SqL.of hM⟩, _, rfl, _, rfl, (by show 2 ≤ sizeLine; decide), fun N nN => ?_⟩
          have u6 := same_upd (o := .tup [nv i, nv j]) nN
          have hN : L2.upd H5 N (.tup [nv i, nv j]) N = some (.tup [nv i, nv j]) := upd_same
          have s6 := s5.trans u6
          have hM6 := u6 _ _ hM
          have pp6 : ∀ (k : Nat) a p, ps[k]? = some a → m4[k]? = some p → L2.upd H5 N (.tup [nv i, nv j]) a = some (.tup [nv p.1, nv p.2]) := fun k a p h1 h2 => u6 _ _ (pp k a p h1 h2)
          have nMN : N ≠ M := fun z => by rw [z, hM] at nN; cases nN
          generalize L2.upd H5 N (.tup [nv i, nv j]) = H6 at s6 hM6 pp6 hN ⊢
          refine ⟨M, _, _, rfl, rfl, hM6, by rw [len]; show m4.length + 1 < 16777216; omega, _, _, rfl, fun b o e => ?_, _, e6, ps ++ [N], ?_, by simp [lp], fun k a p h1 h2 => ?_⟩
          · rw [upd_ne (ne_of_none e nM)]
            exact s6 _ _ e
          · rw [upd_same]
            simp
          · by_cases hk : k < ps.length
            · rw [List.getElem?_append_left hk] at h1
              rw [List.getElem?_append_left (by omega)] at h2
              have := pp6 k a p h1 h2
              rw [upd_ne (fun z => by rw [z, hM6] at this; cases this)]
              exact this
            · have hk2 : k = ps.length := by
                have := get_lt h1
                rw [List.length_append, List.length_singleton] at this
                omega
              rw [hk2, List.getElem?_append_right (Nat.le_refl _), Nat.sub_self] at h1
              rw [hk2, lp, List.getElem?_append_right (Nat.le_refl _), Nat.sub_self] at h2
              cases h1
              cases h2
              rw [upd_ne nMN]
              exact hN
        · have ct : t ≠ m4.length + 1 := fun z => c (by
            rw [len, z]
            exact decide_eq_true rfl)
          rw [if_neg ct] at e6
          exact ⟨_, _, rfl, s5, _, e6, ml5⟩
      · rintro σ H4 ⟨v4, v5, rfl, s4, m4, hm4, ml4⟩
        rw [List.length_map, List.take_length, e2] at hm4
        cases hm4
        exact ⟨_, _, _, _, rfl, s4, _, e3, ml4⟩
    · rintro σ H2 ⟨v2, v3, v4, v5, rfl, s2, m', hm', ps, hM, lp, pp⟩
      rw [ln, List.take_length, hm] at hm'
      cases hm'
      refine ⟨_, rfl, M, _, rfl, .inl ⟨SqL.of hM, fun t nt => ?_⟩⟩
      have u3 := same_upd (o := .tup (V.non :: ps.map V.ref)) nt
      exact k t _ (s2.trans u3) ⟨ps, SqT.of upd_same, lp, fun k a p h1 h2 => SqT.of (u3 _ _ (pp k a p h1 h2))⟩
end
end K18

set_option Elab.async false
set_option linter.all false
set_option maxRecDepth 100000
set_option maxHeartbeats 8000000
namespace K18
open PySem PySem.Spec PyProof.Rows L2 Lf
theorem sIx1 {n : Nat} : HT.sIx (n + 1) 0 (some 1) = 1 := by
  unfold HT.sIx
  simp
theorem cut1 {x : V} {r : List V} : cutV (x :: r) (some 1) none = r := by
  unfold cutV
  rw [List.length_cons, sIx1]
  simp [HT.sIx]
def spLeft (K : PySem.W.Frag) : Sp := fun vs H Q _ => ∃ r t rows m, vs = [.ref r, .ref t] ∧ RowsT K H r rows ∧ MadeT K H t m ∧ rows ≠ [] ∧ m.length ≤ 2000 ∧ (∀ (k : Nat) p, m[k]? = some p → p.1 < k + 1 ∧ ∀ row ∈ rows, p.2 < row.length) ∧
  (∀ (i k : Nat) l, (Mon.leftTab rows (m.take i))[k]? = some l → l.length ≤ 2000 ∧ ∀ x ∈ l, x < rows.length) ∧ ∀ q H', Same H H' → RowsT K H' q (Mon.leftTab rows m) → Q (.ref q) H'
abbrev teLeft (K : PySem.W.Frag) : TE := tOp (rIxT K) (tOp (rIxT K) (tVar 0) (tVar 5)) (tVar 4)
/-- rows[x][c] -/
theorem ix2 {K : PySem.W.Frag} {H : Hp} {r : Addr} {as : List Addr} {rows : List (List Nat)} (sr : SqT K H r (as.map V.ref)) (la : as.length = rows.length) (srow : ∀ (i : Nat) a row, as[i]? = some a → rows[i]? = some row → SqT K H a (row.map nv)) {x c : Nat} (hx : x < rows.length) (hc : ∀ row ∈ rows, c < row.length) {Q : VK}
    (k : Q (nv ((rows.getD x []).getD c 0)) H) : rIxT K (.ref r) (nv x) H fun y H' => rIxT K y (nv c) H' Q := by
  obtain ⟨a, ha⟩ := lt_get (show x < as.length by omega)
  obtain ⟨row, hrow⟩ := lt_get hx
  obtain ⟨t, ht⟩ := lt_get (hc row (List.mem_of_getElem? hrow))
  rw [Mon.getD_of hrow, Mon.getD_of ht] at k
  exact ⟨r, as.map V.ref, _, .ref a, rfl, rfl, sr, atI_nat (get_map ha), a, row.map nv, _, nv t, rfl, rfl, srow x a row ha hrow, atI_nat (get_map ht), k⟩
section
variable {P : Program} {w : World} {K : PySem.W.Frag} {mg : Str → Option Value} {base : Heap}
theorem scLeft : FnScope ["right", "made", "table", "before", "letter", "number"] ["right", "made"] (defScope s_left_table) := ⟨rfl, rfl, rfl, by decide +kernel, rfl, by decide +kernel, by decide +kernel⟩
theorem ok_left {f : Addr} {fd : FuncData} {q : Str} (F : FunD K "_left_table" q (defArgs s_left_table) (defBody s_left_table) (defScope s_left_table) [] [] f fd) (T : Txt P w K mg base) :
    FnOk P w K mg base CX0 1 f fd ["right", "made"] (spLeft K) := by
  have zt : mg "tuple" = none := T.fr 39 "tuple" rfl
  refine F.ok scLeft (fun vs H Q E h => ?_) (fun cdv A outer s H vs Q E hr h => ?_)
  · obtain ⟨r, t, rows, m, rfl, _⟩ := h
    rfl
  · obtain ⟨r, t, rows, m, rfl, R, M, ne, lm, hm, hL, k⟩ := h
    refine ⟨_, PSs.nox (pss_cons (ps_set (i := 2) scLeft.nd rfl (.inl rfl) (pe_lst (pa_cons (pe_ix ix_tup (pv 0) pe_int (fun _ _ => rfl)) pa_nil)))
      (pss_cons (ps_for PassesOwn.never rfl (pi_tup (pe_slice sl_tup (pv 1) (po_some pe_int) po_none)) (pg_tup rfl (pgs_cons (pg_name (i := 3) scLeft.nd rfl (.inl rfl)) (pgs_cons (pg_name (i := 4) scLeft.nd rfl (.inr rfl)) pgs_nil)))
        (pss_one (ps_expr (pe_bm PySem.F.plainAttrs_list PySem.F.slot_list_append PySem.F.type_list_append mt_append (pv 2) (pa_cons (pe_callTy call_tuple_of rfl zt PyProof.Rows.boot_tuple
          (pa_cons (pe_lc (own := [("number", 5)]) (g := gName 5) (te := teLeft K) (by rfl) scLeft.nd (pi_tup (pe_ix ix_list (pv 2) (pv 3) (fun _ _ => rfl))) (blkOk_by (own := [("number", 5)]) (N := ["right", "made", "table", "before", "letter", "number"]) (sc := defScope s_left_table) (by decide +kernel)) (fun _ _ _ _ _ => pg_name (i := 5) scLeft.nd rfl (Or.inl rfl)) (fun _ _ _ _ _ => pts_nil)
            (fun _ _ _ _ _ => by exact pe_ix ix_tup (pe_ix ix_tup (pv 0) (pv 5) (fun _ _ => rfl)) (pv 4) (fun _ _ => rfl))) pa_nil)) pa_nil)))))
      (pss_one (ps_ret (pe_callTy call_tuple_of rfl zt PyProof.Rows.boot_tuple (pa_cons (pv 2) pa_nil)))))), ?_⟩
    obtain ⟨as, sr, la, srow⟩ := R.ex
    obtain ⟨ps, sm, lp, sp⟩ := M.ex
    have n0 : 0 < rows.length := List.length_pos_iff.mpr ne
    obtain ⟨a0, ha0⟩ := lt_get (show 0 < as.length by omega)
    obtain ⟨row0, hrow0⟩ := lt_get n0
    refine ⟨_, rfl, r, as.map V.ref, 0, .ref a0, rfl, rfl, sr, atI_nat (j := 0) (get_map ha0), (by show 1 ≤ sizeLine; decide), fun B nB => ?_⟩
    have s1 := same_upd (o := .lst [V.ref a0]) nB
    have hB1 : L2.upd H B (.lst [V.ref a0]) B = some (.lst ([a0].map V.ref)) := upd_same
    generalize L2.upd H B (.lst [V.ref a0]) = H1 at s1 hB1 ⊢
    refine ⟨_, rfl, 1, rfl, t, _, rfl, Lf.SqT.same s1 sm, ?_, fun S nS => ⟨S, rfl, ⟨_, SqT.of upd_same⟩, ?_⟩⟩
    · rw [List.length_cons, sIx1]
      rintro ⟨z, _⟩
      exact absurd z (by decide)
    rw [cut1]
    have u2 := same_upd (o := .tup (ps.map V.ref)) nS
    have hS : L2.upd H1 S (.tup (ps.map V.ref)) S = some (.tup (ps.map V.ref)) := upd_same
    have s2 := s1.trans u2
    have hB2 := u2 _ _ hB1
    have nSB : S ≠ B := fun z => by rw [z, hB1] at nS; cases nS
    generalize L2.upd H1 S (.tup (ps.map V.ref)) = H2 at s2 hS hB2 ⊢
    clear u2 s1 hB1 nS
    have lps : (ps.map V.ref).length = m.length := by rw [List.length_map, lp]
    refine for_tup (K := K) (a := S) (xs := ps.map V.ref) (fun i σ Hn => ∃ v3 v4 : Option V, σ = [some (.ref r), some (.ref t), some (.ref B), v3, v4, none] ∧ Same H Hn ∧ Hn S = some (.tup (ps.map V.ref)) ∧ ∃ bs : List Addr, Hn B = some (.lst (bs.map V.ref)) ∧ bs.length = (Mon.leftTab rows (m.take i)).length ∧
        ∀ (j : Nat) b l, bs[j]? = some b → (Mon.leftTab rows (m.take i))[j]? = some l → SqT K H b (l.map nv) ∨ Hn b = some (.tup (l.map nv)))
      ⟨none, none, rfl, s2, hS, [a0], hB2, rfl, fun j b l h1 h2 => ?_⟩ (fun i σ Hn _ ⟨_, _, _, _, h, _⟩ => SqT.of h) (fun i x σ Hn hx ⟨v3, v4, eσ, sn, hSn, bs, hBn, lb, pb⟩ => ?_) (fun σ Hn ⟨v3, v4, eσ, sn, hSn, bs, hBn, lb, pb⟩ => ?_)
    · cases j with
      | zero =>
        cases h1
        have e : row0 = l := by
          have : Mon.leftTab rows (m.take 0) = [rows.getD 0 []] := rfl
          rw [this, Mon.getD_of hrow0] at h2
          exact Option.some.inj h2
        rw [← e]
        exact .inl (srow 0 a0 row0 ha0 hrow0)
      | succ j => simp at h1
    · subst eσ
      obtain ⟨pa, hpa, rfl⟩ := map_get hx
      obtain ⟨p, hp⟩ := lt_get (show i < m.length by have := get_lt hpa; omega)
      obtain ⟨b1, c1⟩ := hm i p hp
      have eL : Mon.leftTab rows (m.take (i + 1)) = Mon.leftStep rows (Mon.leftTab rows (m.take i)) p := by rw [(Mon.take_cons hp).2.1, Mon.left_snoc]
      have lL : (Mon.leftTab rows (m.take i)).length = i + 1 := by rw [Mon.left_len, (Mon.take_cons hp).2.2]
      obtain ⟨b, hb⟩ := lt_get (show p.1 < bs.length by omega)
      obtain ⟨l, hl⟩ := lt_get (show p.1 < (Mon.leftTab rows (m.take i)).length by omega)
      obtain ⟨ll, lx⟩ := hL i p.1 l hl
      have sb : SqT K Hn b (l.map nv) := by
        rcases pb _ b l hb hl with z | z
        · exact Lf.SqT.same sn z
        · exact SqT.of z
      refine ⟨pa, _, rfl, Lf.SqT.same sn (sp i pa p hpa hp), rfl, _, _, rfl, _, _, rfl, rfl, ?_⟩
      refine ⟨_, rfl, .inl ⟨rfl, _, SqL.of hBn⟩, _, rfl, _, rfl, B, bs.map V.ref, _, .ref b, rfl, rfl, SqL.of hBn, atI_nat (get_map hb), b, rfl, ⟨_, sb⟩, fun D nD => ?_⟩
      refine lc_tup (K := K) (a := b) (xs := l.map nv) (fun j Hc => But D Hn Hc ∧ Hc D = some (.lst ((l.take j).map fun x => nv ((rows.getD x []).getD p.2 0)))) ⟨But.upd, upd_same⟩ (fun j Hc _ ⟨bc, _⟩ => Lf.SqT.same (Same.but (L2.Same.refl _) nD bc) sb) (fun j z Hc hz ⟨bc, hD⟩ => ?_) (fun Hc ⟨bc, hD⟩ => ?_)
      · obtain ⟨x, hxx, rfl⟩ := map_get hz
        refine ⟨rfl, yesT ?_⟩
        have sc := sn.trans (Same.but (L2.Same.refl _) nD bc)
        have xl := lx x (List.mem_of_getElem? hxx)
        obtain ⟨a, ha⟩ := lt_get (show x < as.length by omega)
        obtain ⟨row, hrow⟩ := lt_get xl
        obtain ⟨e, he⟩ := lt_get (c1 row (List.mem_of_getElem? hrow))
        refine ⟨_, rfl, _, rfl, r, as.map V.ref, _, .ref a, rfl, rfl, Lf.SqT.same sc sr, atI_nat (get_map ha), _, rfl, a, row.map nv, _, nv e, rfl, rfl, Lf.SqT.same sc (srow x a row ha hrow), atI_nat (get_map he), ?_⟩
        refine ⟨_, hD, ?_, But.trans bc But.upd, ?_⟩
        · rw [List.length_map, List.length_take]
          have := get_lt hxx
          show min j l.length < 16777216
          omega
        · rw [upd_same, take_snoc hxx, List.map_append, List.map_cons, List.map_nil, Mon.getD_of hrow, Mon.getD_of he]
      · rw [List.length_map, List.take_length] at hD
        have sc := Same.but (L2.Same.refl _) nD bc
        refine ⟨D, _, rfl, .inl ⟨SqL.of hD, fun N nN => ?_⟩⟩
        have u3 := sc.trans (same_upd (o := .tup (l.map fun x => nv ((rows.getD x []).getD p.2 0))) nN)
        have hN : L2.upd Hc N (.tup (l.map fun x => nv ((rows.getD x []).getD p.2 0))) N = some (.tup (l.map fun x => nv ((rows.getD x []).getD p.2 0))) := upd_same
        generalize L2.upd Hc N (.tup (l.map fun x => nv ((rows.getD x []).getD p.2 0))) = H3 at u3 hN ⊢
        have hB3 := u3 _ _ hBn
        have nNB : N ≠ B := fun z => by rw [z, hB3] at hN; cases hN
        refine ⟨B, _, _, rfl, rfl, hB3, by rw [List.length_map, lb, lL]; have := get_lt hp; show i + 1 < 16777216; omega, _, _, rfl, fun c o e => ?_, by rw [upd_ne nSB]; exact u3 _ _ hSn, bs ++ [N], by rw [upd_same]; simp, by rw [eL, Mon.leftStep, List.length_append, List.length_append, lb]; rfl, fun j c l2 h1 h2 => ?_⟩
        · rw [upd_ne (ne_of_none e nB)]
          exact (sn.trans u3) _ _ e
        · rw [eL, Mon.leftStep] at h2
          by_cases hj : j < bs.length
          · rw [List.getElem?_append_left hj] at h1
            rw [List.getElem?_append_left (by omega)] at h2
            rcases pb j c l2 h1 h2 with z | z
            · exact .inl z
            · have z3 := u3 _ _ z
              exact .inr (by rw [upd_ne (fun y => by rw [y, hB3] at z3; cases z3)]; exact z3)
          · have hj2 : j = bs.length := by
              have := get_lt h1
              rw [List.length_append, List.length_singleton] at this
              omega
            rw [hj2, List.getElem?_append_right (Nat.le_refl _), Nat.sub_self] at h1
            rw [hj2, lb, List.getElem?_append_right (Nat.le_refl _), Nat.sub_self] at h2
            cases h1
            cases h2
            refine .inr ?_
            rw [upd_ne nNB, hN, Mon.getD_of hl, List.map_map]
            rfl
    · subst eσ
      rw [lps, List.take_length] at lb pb
      refine ⟨_, rfl, B, _, rfl, .inl ⟨SqL.of hBn, fun N nN => ?_⟩⟩
      have u3 := same_upd (o := .tup (bs.map V.ref)) nN
      exact k N _ (sn.trans u3) ⟨bs, SqT.of upd_same, lb, fun j b l h1 h2 => (pb j b l h1 h2).elim (fun z => Lf.SqT.same (sn.trans u3) z) fun z => SqT.of (u3 _ _ z)⟩
end
end K18

set_option Elab.async false
set_option linter.all false
set_option maxRecDepth 100000
set_option maxHeartbeats 8000000
namespace K18
open PySem PySem.Spec PyProof.Rows L2 Lf
/-- a tuple of numbers as data -/
abbrev nd (l : List Nat) : PyData := .tuple (l.map fun i => .int (i : Nat))
theorem nd_all {K : PySem.W.Frag} {H : Hp} : ∀ {l : List Nat}, DpAll K H (l.map nv) (l.map fun i => PyData.int (i : Nat))
  | [] => .nil
  | i :: r => .cons (.int _) (nd_all (l := r))
theorem nd_shape (l : List Nat) : SeqAt.shaped (nd l) = true := by
  have all : ∀ l : List Nat, PyData.canLayAll0 (l.map fun i => PyData.int (i : Nat)) = true ∧ PyData.depthAll (l.map fun i => PyData.int (i : Nat)) = 0 := by
    intro l
    induction l with
    | nil => simp [PyData.canLayAll0, PyData.depthAll]
    | cons i r ih => simp [PyData.canLayAll0, PyData.depthAll, PyData.canLay0, PyData.depth, ih.1, ih.2]
  unfold SeqAt.shaped
  simp [PyData.canLay0, PyData.depth, (all l).1, (all l).2]
/-- tuples of the same numbers are not unlike -/
theorem nd_ne {K : PySem.W.Frag} {H : Hp} {a b : Addr} {l : List Nat} {Q : VK} (qa : SqT K H a (l.map nv)) (qb : SqT K H b (l.map nv)) (k : Q (.bl false) H) : rNeD K (.ref a) (.ref b) H Q := by
  refine ⟨_, _, .tup qa nd_all, .tup qb nd_all, nd_shape l, nd_shape l, ?_⟩
  rw [eqv_same (nd_shape l)]
  exact k
def spProds (K : PySem.W.Frag) : Sp := fun vs H Q _ => ∃ r q rows L, vs = [.ref r, .ref q] ∧ RowsT K H r rows ∧ RowsT K H q L ∧ L.length = rows.length ∧
  (∀ (i : Nat) row (c t : Nat) li, rows[i]? = some row → row[c]? = some t → L[i]? = some li → (∀ row' ∈ rows, c < row'.length) ∧ li.length ≤ 2000 ∧ (∀ x ∈ li, x < rows.length) ∧ t < rows.length ∧ L[t]? = some (li.map fun x => (rows.getD x []).getD c 0)) ∧ ∀ H', Same H H' → Q .non H'
abbrev teProd (K : PySem.W.Frag) : TE := tOp (rIxT K) (tOp (rIxT K) (tVar 0) (tVar 6)) (tVar 4)
section
variable {P : Program} {w : World} {K : PySem.W.Frag} {mg : Str → Option Value} {base : Heap}
theorem scProds : FnScope ["right", "left", "number", "row", "letter", "reached", "begun"] ["right", "left"] (defScope s_check_products) := ⟨rfl, rfl, rfl, by decide +kernel, rfl, by decide +kernel, by decide +kernel⟩
theorem ok_prods {f : Addr} {fd : FuncData} {q : Str} (F : FunD K "_check_products" q (defArgs s_check_products) (defBody s_check_products) (defScope s_check_products) [] [] f fd) (T : Txt P w K mg base) :
    FnOk P w K mg base CX0 1 f fd ["right", "left"] (spProds K) := by
  have zE : mg "enumerate" = none := T.fr 32 "enumerate" rfl
  have zt : mg "tuple" = none := T.fr 39 "tuple" rfl
  refine F.ok scProds (fun vs H Q E h => ?_) (fun cdv A outer s H vs Q E hr h => ?_)
  · obtain ⟨r, q, rows, L, rfl, _⟩ := h
    rfl
  · obtain ⟨r, q, rows, L, rfl, R, RL, eL, ok, k⟩ := h
    refine ⟨_, PSs.nox (pss_one (ps_for PassesOwn.never rfl (pi_enumA rfl zE (pv 0)) (pg_tup rfl (pgs_cons (pg_name (i := 2) scProds.nd rfl (.inl rfl)) (pgs_cons (pg_name (i := 3) scProds.nd rfl (.inl rfl)) pgs_nil)))
      (pss_one (ps_for PassesOwn.never rfl (pi_enumA rfl zE (pv 3)) (pg_tup rfl (pgs_cons (pg_name (i := 4) scProds.nd rfl (.inr rfl)) (pgs_cons (pg_name (i := 5) scProds.nd rfl (.inl rfl)) pgs_nil)))
        (pss_one (ps_if (pt_cmpR (op_neD hr.units) (pe_ix ix_tup (pv 1) (pv 5) (fun _ _ => rfl)) (pe_callTy call_tuple_of rfl zt PyProof.Rows.boot_tuple
          (pa_cons (pe_lc (own := [("begun", 6)]) (g := gName 6) (te := teProd K) (by rfl) scProds.nd (pi_tup (pe_ix ix_tup (pv 1) (pv 2) (fun _ _ => rfl))) (blkOk_by (own := [("begun", 6)]) (N := ["right", "left", "number", "row", "letter", "reached", "begun"]) (sc := defScope s_check_products) (by decide +kernel)) (fun _ _ _ _ _ => pg_name (i := 6) scProds.nd rfl (Or.inl rfl)) (fun _ _ _ _ _ => pts_nil)
            (fun _ _ _ _ _ => by exact pe_ix ix_tup (pe_ix ix_tup (pv 0) (pv 6) (fun _ _ => rfl)) (pv 4) (fun _ _ => rfl))) pa_nil)) (nomark _)) (pss_one ps_never) pss_nil)))))), ?_⟩
    obtain ⟨as, sr, la, srow⟩ := R.ex
    obtain ⟨bs, sq, lb, sl⟩ := RL.ex
    have ln : (as.map V.ref).length = rows.length := by rw [List.length_map, la]
    refine ⟨_, rfl, r, as.map V.ref, rfl, .inr ⟨sr, ?_⟩⟩
    have wk : Walk (Itet K r) (as.map V.ref).length (fun H2 => Same H H2) (fun i H v H' => ∃ T x, v = .ref T ∧ H T = none ∧ H' = L2.upd H T (.tup [.int (i : Nat), x]) ∧ (as.map V.ref)[i]? = some x) := (walk_enumT (xs := as.map V.ref)).mono (fun H s => Lf.SqT.same s sr) (fun i H x H' _ _ y => y)
    refine for_it wk (fun i σ H2 => ∃ v2 v3 v4 v5 : Option V, σ = [some (.ref r), some (.ref q), v2, v3, v4, v5, none] ∧ Same H H2) ⟨none, none, none, none, rfl, L2.Same.refl _⟩ (fun i σ H2 _ ⟨_, _, _, _, _, s⟩ => s) ?_ ?_
    · rintro i x σ H2 H3 hi ⟨v2, v3, v4, v5, rfl, s2⟩ ⟨T', y, rfl, nT, rfl, hy⟩
      obtain ⟨a, ha, rfl⟩ := map_get hy
      have hi2 : i < rows.length := by rw [← ln]; exact hi
      obtain ⟨row, hrow⟩ := lt_get hi2
      have sa := srow i a row ha hrow
      refine ⟨T', _, rfl, SqT.of upd_same, rfl, _, _, rfl, _, _, rfl, rfl, ?_⟩
      have s3 := s2.trans (same_upd (o := .tup [.int (i : Nat), .ref a]) nT)
      generalize L2.upd H2 T' (.tup [.int (i : Nat), .ref a]) = H3 at s3 ⊢
      refine ⟨_, rfl, a, row.map nv, rfl, .inr ⟨Lf.SqT.same s3 sa, ?_⟩⟩
      have wk2 : Walk (Itet K a) (row.map nv).length (fun H2 => Same H H2) (fun i H v H' => ∃ T x, v = .ref T ∧ H T = none ∧ H' = L2.upd H T (.tup [.int (i : Nat), x]) ∧ (row.map nv)[i]? = some x) := (walk_enumT (xs := row.map nv)).mono (fun H s => Lf.SqT.same s sa) (fun i H x H' _ _ y => y)
      refine for_it wk2 (fun j σ H4 => ∃ v4 v5 : Option V, σ = [some (.ref r), some (.ref q), some (nv i), some (.ref a), v4, v5, none] ∧ Same H H4) ⟨_, _, rfl, s3⟩ (fun j σ H4 _ ⟨_, _, _, s⟩ => s) ?_ ?_
      · rintro c x σ H4 H5 hj ⟨v4, v5, rfl, s4⟩ ⟨T2, y, rfl, nT2, rfl, hy2⟩
        obtain ⟨t, ht, rfl⟩ := map_get hy2
        obtain ⟨li, hli⟩ := lt_get (show i < L.length by omega)
        obtain ⟨cw, l2, lx, tl, hlt⟩ := ok i row c t li hrow ht hli
        obtain ⟨bt, hbt⟩ := lt_get (show t < bs.length by omega)
        obtain ⟨bi, hbi⟩ := lt_get (show i < bs.length by omega)
        refine ⟨T2, _, rfl, SqT.of upd_same, rfl, _, _, rfl, _, _, rfl, rfl, ?_⟩
        have s5 := s4.trans (same_upd (o := .tup [.int (c : Nat), nv t]) nT2)
        generalize L2.upd H4 T2 (.tup [.int (c : Nat), nv t]) = H5 at s5 ⊢
        have sb := Lf.SqT.same s5 (sl i bi li hbi hli)
        refine ⟨_, rfl, _, rfl, q, bs.map V.ref, _, .ref bt, rfl, rfl, Lf.SqT.same s5 sq, atI_nat (get_map hbt), ?_⟩
        refine ⟨_, rfl, _, rfl, q, bs.map V.ref, _, .ref bi, rfl, rfl, Lf.SqT.same s5 sq, atI_nat (get_map hbi), bi, rfl, ⟨_, sb⟩, fun D nD => ?_⟩
        refine lc_tup (K := K) (a := bi) (xs := li.map nv) (fun j Hc => But D H5 Hc ∧ Hc D = some (.lst ((li.take j).map fun x => nv ((rows.getD x []).getD c 0)))) ⟨But.upd, upd_same⟩ (fun j Hc _ ⟨bc, _⟩ => Lf.SqT.same (Same.but (L2.Same.refl _) nD bc) sb) (fun j z Hc hz ⟨bc, hD⟩ => ?_) (fun Hc ⟨bc, hD⟩ => ?_)
        · obtain ⟨x, hxx, rfl⟩ := map_get hz
          refine ⟨rfl, yesT ?_⟩
          have sc := s5.trans (Same.but (L2.Same.refl _) nD bc)
          have xl := lx x (List.mem_of_getElem? hxx)
          obtain ⟨a', ha'⟩ := lt_get (show x < as.length by omega)
          obtain ⟨row', hrow'⟩ := lt_get xl
          obtain ⟨e, he⟩ := lt_get (cw row' (List.mem_of_getElem? hrow'))
          refine ⟨_, rfl, _, rfl, r, as.map V.ref, _, .ref a', rfl, rfl, Lf.SqT.same sc sr, atI_nat (get_map ha'), _, rfl, a', row'.map nv, _, nv e, rfl, rfl, Lf.SqT.same sc (srow x a' row' ha' hrow'), atI_nat (get_map he), ?_⟩
          refine ⟨_, hD, ?_, But.trans bc But.upd, ?_⟩
          · rw [List.length_map, List.length_take]
            have := get_lt hxx
            show min j li.length < 16777216
            omega
          · rw [upd_same, take_snoc hxx, List.map_append, List.map_cons, List.map_nil, Mon.getD_of hrow', Mon.getD_of he]
        · rw [List.length_map, List.take_length] at hD
          have sc := Same.but (L2.Same.refl _) nD bc
          refine ⟨D, _, rfl, .inl ⟨SqL.of hD, fun N nN => ?_⟩⟩
          have u6 := sc.trans (same_upd (o := .tup (li.map fun x => nv ((rows.getD x []).getD c 0))) nN)
          have s6 := s5.trans u6
          have e6 : (li.map fun x => nv ((rows.getD x []).getD c 0)) = (li.map fun x => (rows.getD x []).getD c 0).map nv := by rw [List.map_map]; rfl
          refine nd_ne (l := li.map fun x => (rows.getD x []).getD c 0) (Lf.SqT.same s6 (sl t bt _ hbt hlt)) (SqT.of (by rw [upd_same, e6])) ⟨_, rfl, ?_⟩
          exact ifF rfl ⟨_, _, rfl, s6⟩
      · rintro σ H4 ⟨v4, v5, rfl, s4⟩
        exact ⟨_, _, _, _, rfl, s4⟩
    · rintro σ H2 ⟨v2, v3, v4, v5, rfl, s2⟩
      exact k _ s2
end
end K18

set_option Elab.async false
set_option linter.all false
set_option maxRecDepth 100000
set_option maxHeartbeats 8000000
namespace K18
open PySem PySem.Spec PyProof.Rows L2 Lf
theorem SqT.but {K : PySem.W.Frag} {H H' : Hp} {p a C dx : Addr} {fs : List (Str × V)} {xs : List V} (hp : H p = some (.ins C dx fs)) (b : But p H H') (h : SqT K H a xs) : SqT K H' a xs := by
  rcases h with (h | ⟨o, h⟩) | h
  · exact .inl (.inl (b _ _ (fun z => by rw [z, hp] at h; cases h) h))
  · exact .inl (.inr ⟨o, b _ _ (fun z => by rw [z, hp] at h; cases h) h⟩)
  · exact .inr h
theorem RowsT.but {K : PySem.W.Frag} {H H' : Hp} {p r C dx : Addr} {fs : List (Str × V)} {rows : List (List Nat)} (hp : H p = some (.ins C dx fs)) (b : But p H H') (h : RowsT K H r rows) : RowsT K H' r rows := by
  obtain ⟨as, h1, h2, h3⟩ := h.ex
  exact ⟨as, SqT.but hp b h1, h2, fun i x row g1 g2 => SqT.but hp b (h3 i x row g1 g2)⟩
theorem MadeT.but {K : PySem.W.Frag} {H H' : Hp} {p r C dx : Addr} {fs : List (Str × V)} {m : List (Nat × Nat)} (hp : H p = some (.ins C dx fs)) (b : But p H H') (h : MadeT K H r m) : MadeT K H' r m := by
  obtain ⟨as, h1, h2, h3⟩ := h.ex
  exact ⟨as, SqT.but hp b h1, h2, fun i x row g1 g2 => SqT.but hp b (h3 i x row g1 g2)⟩
/-- a table that the constructor takes -/
structure Accept (rows : List (List Nat)) (wd : Nat) (m : List (Nat × Nat)) : Prop where
  form : Form rows wd
  made : Mon.madeTab 0 rows [] = some m
  len : m.length + 1 = rows.length
  left : ∀ (i k : Nat) l, (Mon.leftTab rows (m.take i))[k]? = some l → l.length = wd ∧ ∀ x ∈ l, x < rows.length
  prod : ∀ (i : Nat) row (c t : Nat) li lt, rows[i]? = some row → row[c]? = some t → (Mon.leftTab rows m)[i]? = some li → (Mon.leftTab rows m)[t]? = some lt → lt = li.map fun x => (rows.getD x []).getD c 0
theorem accept_of {n : Nat} {gens found rows : List (List Nat)} {m : List (Nat × Nat)} (T : Mon.Tab n gens found rows) (g1 : gens ≠ []) (g6 : gens.length ≤ 6) (f2 : found.length ≤ 2000) (hm : Mon.madeTab 0 rows [] = some m) (lm : m.length + 1 = rows.length) : Accept rows gens.length m := by
  have mk : ∀ (i k : Nat) p, (m.take i)[k]? = some p → p.1 < k + 1 ∧ ∃ row, rows[p.1]? = some row ∧ row[p.2]? = some (k + 1) := fun i k p h => by
    rw [List.getElem?_take] at h
    split at h
    · exact Mon.madeTab_lt hm h
    · cases h
  have lo : ∀ (i k : Nat) l, (Mon.leftTab rows (m.take i))[k]? = some l → Mon.LeftOk gens found k l := fun i => Mon.left_ok T g1 (m.take i) (mk i)
  have lm' : ∀ (k : Nat) l, (Mon.leftTab rows m)[k]? = some l → Mon.LeftOk gens found k l := fun k l h => lo m.length k l (by rw [List.take_length]; exact h)
  refine ⟨⟨?_, ?_, List.length_pos_iff.mpr g1, g6, fun row hr => ?_⟩, hm, lm, fun i k l h => ?_, fun i row c t li lt h1 h2 h3 h4 => Mon.prod_ok T g1 lm' h1 h2 h3 h4⟩
  · omega
  · rw [T.len]; exact f2
  · obtain ⟨i, hi⟩ := List.getElem?_of_mem hr
    refine ⟨T.wid i row hi, fun t ht => ?_⟩
    obtain ⟨c, hc⟩ := List.getElem?_of_mem ht
    obtain ⟨x, g, _, _, h3⟩ := T.ent i row hi c t hc
    rw [T.len]
    exact (List.getElem?_eq_some_iff.mp h3).1
  · obtain ⟨a, b⟩ := lo i k l h
    refine ⟨a, fun x hx => ?_⟩
    obtain ⟨c, hc⟩ := List.getElem?_of_mem hx
    obtain ⟨_, _, _, _, h3⟩ := b c x hc
    rw [T.len]
    exact (List.getElem?_eq_some_iff.mp h3).1
/-- a Monoid -/
structure Mo (K : PySem.W.Frag) (H : Hp) (x : Addr) (rows : List (List Nat)) (m : List (Nat × Nat)) : Prop where
  ex : ∃ dx t u v, H x = some (.ins (He.ga K "Monoid") dx [("right", .ref t), ("_made", .ref u), ("_left", .ref v)]) ∧ RowsT K H t rows ∧ MadeT K H u m ∧ RowsT K H v (Mon.leftTab rows m)
theorem Mo.same {K : PySem.W.Frag} {H H' : Hp} {x : Addr} {rows : List (List Nat)} {m : List (Nat × Nat)} (h : Mo K H x rows m) (e : Same H H') : Mo K H' x rows m := by
  obtain ⟨dx, t, u, v, a, b, c, d⟩ := h.ex
  exact ⟨dx, t, u, v, e _ _ a, b.same e, c.same e, d.same e⟩
def spMon (K : PySem.W.Frag) : Sp := fun vs H Q _ => ∃ p r dx rows wd m, vs = [.ref p, .ref r] ∧ H p = some (.ins (He.ga K "Monoid") dx []) ∧ RowsL K H r rows ∧ Accept rows wd m ∧ ∀ H', But p H H' → Mo K H' p rows m → Q .non H'
abbrev rTup (K : PySem.W.Frag) : List V → Hp → VK → Prop := fun xs H Q => ∃ p ys, xs = [V.ref p] ∧ ((SqL K H p ys ∧ ∀ (l : Addr), H l = none → Q (V.ref l) (L2.upd H l (HO.tup ys))) ∨ SqT K H p ys ∧ Q (V.ref p) H)
section
variable {P : Program} {w : World} {K : PySem.W.Frag} {mg : Str → Option Value} {base : Heap}
theorem scMon : FnScope ["self", "right", "row"] ["self", "right"] (defScope s_Monoid_init) := ⟨rfl, rfl, rfl, by decide +kernel, rfl, by decide +kernel, by decide +kernel⟩
theorem ok_mon {f : Addr} {fd : FuncData} {q : Str} (F : FunD K "__init__" q (defArgs s_Monoid_init) (defBody s_Monoid_init) (defScope s_Monoid_init) [] [] f fd) (T : Txt P w K mg base)
    (DF : Def P w K mg base CX0 3 "_check_form" ["right"] (spForm K)) (DM : Def P w K mg base CX0 1 "_made_by" ["right"] (spMade K)) (DL : Def P w K mg base CX0 1 "_left_table" ["right", "made"] (spLeft K)) (DP : Def P w K mg base CX0 1 "_check_products" ["right", "left"] (spProds K)) :
    FnOk P w K mg base CX0 4 f fd ["self", "right"] (spMon K) := by
  have zt : mg "tuple" = none := T.fr 39 "tuple" rfl
  have cl : L2.Cls K (He.ga K "Monoid") := He.cls_ok (T.d.fact 41 (f := .cls "Monoid") rfl)
  have n1 : NoAttr K (He.ga K "Monoid") "right" := He.noat_ok (T.d.fact 51 (f := .noat "Monoid" "right") rfl)
  have n2 : NoAttr K (He.ga K "Monoid") "_made" := He.noat_ok (T.d.fact 52 (f := .noat "Monoid" "_made") rfl)
  have n3 : NoAttr K (He.ga K "Monoid") "_left" := He.noat_ok (T.d.fact 53 (f := .noat "Monoid" "_left") rfl)
  refine F.ok scMon (fun vs H Q E h => ?_) (fun cdv A outer s H vs Q E hr h => ?_)
  · obtain ⟨p, r, dx, rows, wd, m, rfl, _⟩ := h
    rfl
  · obtain ⟨p, r, dx, rows, wd, m, rfl, hp, R, AC, k⟩ := h
    have r1 : Room 1 _ := hr.mono (by decide)
    refine ⟨_, PSs.nox (pss_cons (ps_expr (pe_def DF hr pass0 rfl (pa_cons (pv 1) pa_nil)))
      (pss_cons (ps_fld (pv 0) (pe_callTy call_tuple_of rfl zt PyProof.Rows.boot_tuple (pa_cons (pe_lc (own := [("row", 2)]) (g := gName 2) (te := tCB (rTup K) (tCons (tVar 2) tNil)) (by rfl) scMon.nd (pi_list (pv 1)) (blkOk_by (own := [("row", 2)]) (N := ["self", "right", "row"]) (sc := defScope s_Monoid_init) (by decide +kernel)) (fun _ _ _ _ _ => pg_name (i := 2) scMon.nd rfl (Or.inl rfl)) (fun _ _ _ _ _ => pts_nil)
        (fun _ _ _ _ _ => by exact pe_callTy call_tuple_of rfl zt PyProof.Rows.boot_tuple (pa_cons (pv 2) pa_nil))) pa_nil)) rfl)
      (pss_cons (ps_fld (pv 0) (pe_def DM r1 pass0 rfl (pa_cons (pe_fld (pv 0) rfl) pa_nil)) rfl)
      (pss_cons (ps_fld (pv 0) (pe_def DL r1 pass0 rfl (pa_cons (pe_fld (pv 0) rfl) (pa_cons (pe_fld (pv 0) rfl) pa_nil))) rfl)
      (pss_one (ps_expr (pe_def DP r1 pass0 rfl (pa_cons (pe_fld (pv 0) rfl) (pa_cons (pe_fld (pv 0) rfl) pa_nil))))))))), ?_⟩
    obtain ⟨f1, f2, w1, w6, frow⟩ := AC.form
    refine ⟨_, rfl, r, rows, wd, rfl, R, AC.form, fun H1 s1 => ?_⟩
    obtain ⟨as, sr, la, srow⟩ := (R.same s1).ex
    have hp1 := s1 _ _ hp
    have ln : (as.map V.ref).length = rows.length := by rw [List.length_map, la]
    refine ⟨_, rfl, r, rfl, ⟨_, sr⟩, fun D nD => ?_⟩
    refine lc_list (K := K) (a := r) (xs := as.map V.ref) (fun i Hc => But D H1 Hc ∧ ∃ us : List Addr, us.length = i ∧ Hc D = some (.lst (us.map V.ref)) ∧ ∀ (j : Nat) u row, us[j]? = some u → rows[j]? = some row → Hc u = some (.tup (row.map nv))) ⟨But.upd, [], rfl, upd_same, fun j u row h => by simp at h⟩ (fun i Hc _ ⟨bc, _⟩ => L2.Same.seq (Same.but (L2.Same.refl _) nD bc) sr) (fun i z Hc hz ⟨bc, us, lu, hD, pu⟩ => ?_) (fun Hc ⟨bc, us, lu, hD, pu⟩ => ?_)
    · obtain ⟨a, ha, rfl⟩ := map_get hz
      obtain ⟨row, hrow⟩ := lt_get (show i < rows.length by have := get_lt ha; omega)
      have sc := Same.but (L2.Same.refl _) nD bc
      refine ⟨rfl, yesT ?_⟩
      refine ⟨_, rfl, a, row.map nv, rfl, .inl ⟨L2.Same.seq sc (srow i a row ha hrow), fun u nu => ?_⟩⟩
      have u2 := same_upd (o := .tup (row.map nv)) nu
      have hu : L2.upd Hc u (.tup (row.map nv)) u = some (.tup (row.map nv)) := upd_same
      generalize L2.upd Hc u (.tup (row.map nv)) = H2 at u2 hu ⊢
      have hD2 := u2 _ _ hD
      have nuD : u ≠ D := fun z => by rw [z, hD2] at hu; cases hu
      refine ⟨_, hD2, by rw [List.length_map, lu]; have := get_lt hrow; show i < 16777216; omega, But.trans (bc.trans (But.of u2)) But.upd, us ++ [u], by simp [lu], by rw [upd_same]; simp, fun j v rw' h1 h2 => ?_⟩
      by_cases hj : j < us.length
      · rw [List.getElem?_append_left hj] at h1
        have z := u2 _ _ (pu j v rw' h1 h2)
        rw [upd_ne (fun y => by rw [y, hD2] at z; cases z)]
        exact z
      · have hj2 : j = us.length := by
          have := get_lt h1
          rw [List.length_append, List.length_singleton] at this
          omega
        rw [hj2, List.getElem?_append_right (Nat.le_refl _), Nat.sub_self] at h1
        cases h1
        rw [hj2, lu, hrow] at h2
        cases h2
        rw [upd_ne nuD]
        exact hu
    · have sc := Same.but (L2.Same.refl _) nD bc
      refine ⟨D, _, rfl, .inl ⟨SqL.of hD, fun t nt => ?_⟩⟩
      have u2 := same_upd (o := .tup (us.map V.ref)) nt
      have s2 := sc.trans u2
      have Rt : RowsT K (L2.upd Hc t (.tup (us.map V.ref))) t rows := ⟨us, SqT.of upd_same, by rw [lu, ln], fun j u row h1 h2 => SqT.of (u2 _ _ (pu j u row h1 h2))⟩
      generalize L2.upd Hc t (.tup (us.map V.ref)) = H2 at s2 Rt ⊢
      have hp2 := s2 _ _ hp1
      have b0 : But p H H2 := But.of (s1.trans s2)
      clear u2 pu hD bc sc
      refine ⟨_, rfl, p, _, dx, [], rfl, hp2, cl, n1, (by show 0 < 1000; decide), ?_⟩
      have Rt3 : RowsT K (L2.upd H2 p (.ins (He.ga K "Monoid") dx [("right", V.ref t)])) t rows := RowsT.but hp2 But.upd Rt
      have b3 : But p H (L2.upd H2 p (.ins (He.ga K "Monoid") dx [("right", V.ref t)])) := b0.trans But.upd
      have hp3 : L2.upd H2 p (.ins (He.ga K "Monoid") dx [("right", V.ref t)]) p = some (.ins (He.ga K "Monoid") dx [("right", V.ref t)]) := upd_same
      show tSeq _ _ _ _ (L2.upd H2 p (.ins (He.ga K "Monoid") dx [("right", V.ref t)]))
      generalize L2.upd H2 p (.ins (He.ga K "Monoid") dx [("right", V.ref t)]) = H3 at Rt3 b3 hp3 ⊢
      clear Rt b0 hp2 s2 nt hp1 sr srow s1 R
      refine ⟨_, rfl, p, _, dx, _, _, rfl, hp3, cl, n1, rfl, t, rows, m, rfl, Rt3, AC.made, by have := AC.len; omega, fun u H4 s4 Mu => ?_⟩
      have hp4 := s4 _ _ hp3
      refine ⟨_, rfl, p, _, dx, _, rfl, hp4, cl, n2, (by show 1 < 1000; decide), ?_⟩
      have b4 : But p H (L2.upd H4 p (.ins (He.ga K "Monoid") dx [("right", V.ref t), ("_made", V.ref u)])) := (b3.trans (But.of s4)).trans But.upd
      have Rt5 : RowsT K (L2.upd H4 p (.ins (He.ga K "Monoid") dx [("right", V.ref t), ("_made", V.ref u)])) t rows := RowsT.but hp4 But.upd (Rt3.same s4)
      have Mu5 : MadeT K (L2.upd H4 p (.ins (He.ga K "Monoid") dx [("right", V.ref t), ("_made", V.ref u)])) u m := MadeT.but hp4 But.upd Mu
      have hp5 : L2.upd H4 p (.ins (He.ga K "Monoid") dx [("right", V.ref t), ("_made", V.ref u)]) p = some (.ins (He.ga K "Monoid") dx [("right", V.ref t), ("_made", V.ref u)]) := upd_same
      show tSeq _ _ _ _ (L2.upd H4 p (.ins (He.ga K "Monoid") dx [("right", V.ref t), ("_made", V.ref u)]))
      generalize L2.upd H4 p (.ins (He.ga K "Monoid") dx [("right", V.ref t), ("_made", V.ref u)]) = H5 at Rt5 Mu5 b4 hp5 ⊢
      clear Rt3 Mu s4 hp4 b3 hp3
      refine ⟨_, rfl, p, _, dx, _, _, rfl, hp5, cl, n1, rfl, _, rfl, p, _, dx, _, _, rfl, hp5, cl, n2, rfl, t, u, rows, m, rfl, Rt5, Mu5, List.ne_nil_of_length_pos (by omega), by have := AC.len; omega, fun k p hp => ?_, fun i k l h => ?_, fun v H6 s6 Lv => ?_⟩
      · obtain ⟨a, row, b, c⟩ := Mon.madeTab_lt AC.made hp
        refine ⟨a, fun row' h => ?_⟩
        have := get_lt c
        rw [(frow row (List.mem_of_getElem? b)).1] at this
        rw [(frow row' h).1]
        exact this
      · obtain ⟨a, b⟩ := AC.left i k l h
        exact ⟨by omega, b⟩
      have hp6 := s6 _ _ hp5
      refine ⟨_, rfl, p, _, dx, _, rfl, hp6, cl, n3, (by show 2 < 1000; decide), ?_⟩
      have b6 : But p H (L2.upd H6 p (.ins (He.ga K "Monoid") dx [("right", V.ref t), ("_made", V.ref u), ("_left", V.ref v)])) := (b4.trans (But.of s6)).trans But.upd
      have Rt7 : RowsT K (L2.upd H6 p (.ins (He.ga K "Monoid") dx [("right", V.ref t), ("_made", V.ref u), ("_left", V.ref v)])) t rows := RowsT.but hp6 But.upd (Rt5.same s6)
      have Mu7 : MadeT K (L2.upd H6 p (.ins (He.ga K "Monoid") dx [("right", V.ref t), ("_made", V.ref u), ("_left", V.ref v)])) u m := MadeT.but hp6 But.upd (Mu5.same s6)
      have Lv7 : RowsT K (L2.upd H6 p (.ins (He.ga K "Monoid") dx [("right", V.ref t), ("_made", V.ref u), ("_left", V.ref v)])) v (Mon.leftTab rows m) := RowsT.but hp6 But.upd Lv
      have hp7 : L2.upd H6 p (.ins (He.ga K "Monoid") dx [("right", V.ref t), ("_made", V.ref u), ("_left", V.ref v)]) p = some (.ins (He.ga K "Monoid") dx [("right", V.ref t), ("_made", V.ref u), ("_left", V.ref v)]) := upd_same
      show Ends.nx _ _ (L2.upd H6 p (.ins (He.ga K "Monoid") dx [("right", V.ref t), ("_made", V.ref u), ("_left", V.ref v)]))
      generalize L2.upd H6 p (.ins (He.ga K "Monoid") dx [("right", V.ref t), ("_made", V.ref u), ("_left", V.ref v)]) = H7 at Rt7 Mu7 Lv7 b6 hp7 ⊢
      have lL : (Mon.leftTab rows m).length = rows.length := by rw [Mon.left_len, AC.len]
      have left' : ∀ (k : Nat) l, (Mon.leftTab rows m)[k]? = some l → l.length = wd ∧ ∀ x ∈ l, x < rows.length := fun k l h => AC.left m.length k l (by rw [List.take_length]; exact h)
      refine ⟨_, rfl, p, _, dx, _, _, rfl, hp7, cl, n1, rfl, _, rfl, p, _, dx, _, _, rfl, hp7, cl, n3, rfl, t, v, rows, Mon.leftTab rows m, rfl, Rt7, Lv7, lL, fun i row c x li h1 h2 h3 => ?_, fun H8 s8 => ?_⟩
      · obtain ⟨fr, fx⟩ := frow row (List.mem_of_getElem? h1)
        obtain ⟨la', lb'⟩ := left' i li h3
        have hx := fx x (List.mem_of_getElem? h2)
        obtain ⟨lt, hlt⟩ := lt_get (show x < (Mon.leftTab rows m).length by omega)
        refine ⟨fun row' h => ?_, by omega, lb', hx, ?_⟩
        · have := get_lt h2
          rw [(frow row' h).1]
          omega
        · rw [hlt, AC.prod i row c x li lt h1 h2 h3 hlt]
      · exact k H8 (b6.trans (But.of s8)) ⟨dx, t, u, v, s8 _ _ hp7, Rt7.same s8, Mu7.same s8, Lv7.same s8⟩
end
end K18

set_option Elab.async false
set_option linter.all false
set_option maxRecDepth 100000
set_option maxHeartbeats 4000000
/-! Products of maps, found one by one: pure. -/
namespace Lf
open PySem PySem.Spec PyProof.Rows L2
/-- numbers as the key of a dict -/
def kt (x : List Nat) : List Key := x.map fun i => (Sum.inl ((i : Nat) : Int) : Key)
theorem kt_map {x : List Nat} : (kt x).map kV = x.map fun i => V.int (i : Nat) := by
  unfold kt
  rw [List.map_map]
  rfl
theorem kt_inj : ∀ {x y : List Nat}, kt x = kt y → x = y
  | [], [], _ => rfl
  | [], _ :: _, h => by simp [kt] at h
  | _ :: _, [], h => by simp [kt] at h
  | a :: r, b :: s, h => by
    unfold kt at h
    rw [List.map_cons, List.map_cons] at h
    injection h with h1 h2
    have e : ((a : Int)) = (b : Int) := Sum.inl.inj h1
    rw [show a = b by omega, kt_inj (x := r) (y := s) h2]
/-- a dict of numbers by their place -/
def dtabF : Nat → List (List Nat) → List (List Key × V)
  | _, [] => []
  | k, x :: r => (kt x, .int (k : Nat)) :: dtabF (k + 1) r
abbrev dtab (f : List (List Nat)) : List (List Key × V) := dtabF 0 f
theorem dtabF_len : ∀ {f : List (List Nat)} {k : Nat}, (dtabF k f).length = f.length
  | [], _ => rfl
  | x :: r, k => by rw [dtabF, List.length_cons, dtabF_len, List.length_cons]
theorem dtabF_snoc {x : List Nat} : ∀ {f : List (List Nat)} {k : Nat}, dtabF k (f ++ [x]) = dtabF k f ++ [(kt x, .int (k + f.length : Nat))]
  | [], k => rfl
  | y :: r, k => by
    rw [List.cons_append, dtabF, dtabF, dtabF_snoc, List.cons_append, List.length_cons, show k + 1 + r.length = k + (r.length + 1) by omega]
theorem dtabF_none {x : List Nat} : ∀ {f : List (List Nat)} {k : Nat}, x ∉ f → valV (dtabF k f) (kt x) = none
  | [], _, _ => rfl
  | y :: r, k, h => by
    have hy : ¬ kt y = kt x := fun z => h (by rw [kt_inj z]; exact List.mem_cons_self)
    rw [dtabF, valV_neg (p := (kt y, V.int (k : Nat))) hy]
    exact dtabF_none fun z => h (List.mem_cons_of_mem _ z)
theorem dtabF_some {x : List Nat} : ∀ {f : List (List Nat)} {k i : Nat}, f.Nodup → f[i]? = some x → valV (dtabF k f) (kt x) = some (.int (k + i : Nat))
  | [], _, _, _, h => by simp at h
  | y :: r, k, 0, _, h => by
    cases h
    rw [dtabF, valV_pos (p := (kt x, V.int (k : Nat))) rfl]
    rfl
  | y :: r, k, i + 1, nd, h => by
    have hm : r[i]? = some x := h
    obtain ⟨h1, h2⟩ := List.nodup_cons.mp nd
    have hy : ¬ kt y = kt x := fun z => h1 (by rw [kt_inj z]; exact List.mem_of_getElem? hm)
    rw [dtabF, valV_neg (p := (kt y, V.int (k : Nat))) hy, dtabF_some h2 hm, show k + 1 + i = k + (i + 1) by omega]
theorem dtab_put {x : List Nat} {f : List (List Nat)} (h : x ∉ f) : putK (dtab f) (kt x) (.int (f.length : Nat)) = dtab (f ++ [x]) := by
  rw [putK_new _ (dtabF_none h), dtab, dtabF_snoc, Nat.zero_add]
end Lf
namespace Mon
/-- the words of what was met -/
def wordStep (L : List (List Nat)) (p : Nat × Nat) : List (List Nat) := L ++ [L.getD p.1 [] ++ [p.2]]
def wordTab (m : List (Nat × Nat)) : List (List Nat) := m.foldl wordStep [[]]
theorem word_snoc {m : List (Nat × Nat)} {p : Nat × Nat} : wordTab (m ++ [p]) = wordStep (wordTab m) p := by
  unfold wordTab
  rw [List.foldl_append]
  rfl
theorem word_len : ∀ {m : List (Nat × Nat)}, (wordTab m).length = m.length + 1 := by
  intro m
  unfold wordTab
  suffices h : ∀ (m : List (Nat × Nat)) (L : List (List Nat)), (m.foldl wordStep L).length = L.length + m.length by
    rw [h]
    show 1 + m.length = _
    omega
  intro m
  induction m with
  | nil => intro L; rfl
  | cons p r ih =>
    intro L
    rw [List.foldl_cons, ih, wordStep, List.length_append, List.length_cons, List.length_cons, List.length_nil]
    omega
/-- the search at letter c of row i -/
structure Bfs (n : Nat) (gens : List (List Nat)) (i c : Nat) (found rows : List (List Nat)) (row : List Nat) (m : List (Nat × Nat)) : Prop where
  nd : found.Nodup
  val : ∀ x ∈ found, Valid n x
  gval : ∀ g ∈ gens, Valid n g
  head : found[0]? = some (idm n)
  len : rows.length = i
  wid : ∀ (j : Nat) r, rows[j]? = some r → r.length = gens.length
  ent : ∀ (j : Nat) r, rows[j]? = some r → ∀ (k t : Nat), r[k]? = some t → ∃ x g, found[j]? = some x ∧ gens[k]? = some g ∧ found[t]? = some (comp x g)
  rlen : row.length = c
  rent : ∀ (k t : Nat), row[k]? = some t → ∃ x g, found[i]? = some x ∧ gens[k]? = some g ∧ found[t]? = some (comp x g)
  made : ∃ m0, madeTab 0 rows [] = some m0 ∧ (c ≠ 0 → i < m0.length + 1) ∧ madeRow i 0 row m0 = some m
  mlen : m.length + 1 = found.length
  le : i ≤ found.length
theorem Bfs.few {n : Nat} {gens found rows : List (List Nat)} {i c : Nat} {row : List Nat} {m : List (Nat × Nat)} (B : Bfs n gens i c found rows row m) : found.length ≤ n ^ n := maps_few B.nd B.val
theorem Bfs.start {n : Nat} {gens : List (List Nat)} (gv : ∀ g ∈ gens, Valid n g) : Bfs n gens 0 0 [idm n] [] [] [] where
  nd := by simp
  val := fun x hx => by rw [List.mem_singleton.mp hx]; exact idm_valid
  gval := gv
  head := rfl
  len := rfl
  wid := fun j r h => by simp at h
  ent := fun j r h => by simp at h
  rlen := rfl
  rent := fun k t h => by simp at h
  made := ⟨[], rfl, fun z => (z rfl).elim, rfl⟩
  mlen := rfl
  le := Nat.zero_le _
theorem get_app {α : Type} {l : List α} {i : Nat} {x : α} (y : α) (h : l[i]? = some x) : (l ++ [y])[i]? = some x := by
  rw [List.getElem?_append_left (List.getElem?_eq_some_iff.mp h).1]
  exact h
theorem snoc_cases {α : Type} {l : List α} {j : Nat} {x y : α} (h : (l ++ [y])[j]? = some x) : l[j]? = some x ∨ j = l.length ∧ x = y := by
  by_cases hj : j < l.length
  · rw [List.getElem?_append_left hj] at h
    exact .inl h
  · have := (List.getElem?_eq_some_iff.mp h).1
    rw [List.length_append, List.length_singleton] at this
    have e : j = l.length := by omega
    subst e
    rw [List.getElem?_append_right (Nat.le_refl _), Nat.sub_self] at h
    exact .inr ⟨rfl, (Option.some.inj h).symm⟩
section
variable {n : Nat} {gens found rows : List (List Nat)} {i c : Nat} {row : List Nat} {m : List (Nat × Nat)}
/-- a product that was met before -/
theorem Bfs.old (B : Bfs n gens i c found rows row m) {x g : List Nat} {t : Nat} (hx : found[i]? = some x) (hg : gens[c]? = some g) (ht : found[t]? = some (comp x g)) : Bfs n gens i (c + 1) found rows (row ++ [t]) m := by
  obtain ⟨m0, a1, a2, a3⟩ := B.made
  have tl := (List.getElem?_eq_some_iff.mp ht).1
  have il := (List.getElem?_eq_some_iff.mp hx).1
  have ml := B.mlen
  refine { B with rlen := by rw [List.length_append, B.rlen]; rfl, rent := fun k u h => ?_, made := ⟨m0, a1, fun _ => ?_, ?_⟩ }
  · rcases snoc_cases h with h | ⟨rfl, rfl⟩
    · exact B.rent k u h
    · exact ⟨x, g, hx, by rw [B.rlen]; exact hg, ht⟩
  · by_cases hc : c = 0
    · subst hc
      have : row = [] := List.length_eq_zero_iff.mp B.rlen
      subst this
      have e : m0 = m := Option.some.inj a3
      subst e
      omega
    · exact a2 hc
  · rw [madeRow_snoc, a3, Option.bind_some, if_neg (by omega), if_neg (by omega)]
/-- a new one -/
theorem Bfs.new (B : Bfs n gens i c found rows row m) {x g : List Nat} (hx : found[i]? = some x) (hg : gens[c]? = some g) (hn : comp x g ∉ found) : Bfs n gens i (c + 1) (found ++ [comp x g]) rows (row ++ [found.length]) (m ++ [(i, c)]) := by
  obtain ⟨m0, a1, a2, a3⟩ := B.made
  have il := (List.getElem?_eq_some_iff.mp hx).1
  have ml := B.mlen
  refine ⟨?_, fun z hz => ?_, B.gval, get_app _ B.head, B.len, B.wid, fun j r hr k t ht => ?_, by rw [List.length_append, B.rlen]; rfl, fun k t h => ?_, ⟨m0, a1, fun _ => ?_, ?_⟩, by simp [ml], by rw [List.length_append]; omega⟩
  · rw [List.nodup_append]
    refine ⟨B.nd, by simp, fun a ha b hb e => ?_⟩
    rw [e, List.mem_singleton.mp hb] at ha
    exact hn ha
  · rcases List.mem_append.mp hz with h | h
    · exact B.val z h
    · rw [List.mem_singleton.mp h]
      exact comp_valid (B.val x (List.mem_of_getElem? hx)) (B.gval g (List.mem_of_getElem? hg))
  · obtain ⟨u, v, h1, h2, h3⟩ := B.ent j r hr k t ht
    exact ⟨u, v, get_app _ h1, h2, get_app _ h3⟩
  · rcases snoc_cases h with h | ⟨rfl, rfl⟩
    · obtain ⟨u, v, h1, h2, h3⟩ := B.rent k t h
      exact ⟨u, v, get_app _ h1, h2, get_app _ h3⟩
    · refine ⟨x, g, get_app _ hx, by rw [B.rlen]; exact hg, ?_⟩
      rw [List.getElem?_append_right (Nat.le_refl _), Nat.sub_self]
      rfl
  · by_cases hc : c = 0
    · subst hc
      have : row = [] := List.length_eq_zero_iff.mp B.rlen
      subst this
      have e : m0 = m := Option.some.inj a3
      subst e
      omega
    · exact a2 hc
  · rw [madeRow_snoc, a3, Option.bind_some, if_neg (by omega), if_pos ml.symm, Nat.zero_add, B.rlen]
/-- the end of a row -/
theorem Bfs.next (B : Bfs n gens i c found rows row m) (hc : c = gens.length) (c0 : c ≠ 0) {x : List Nat} (hx : found[i]? = some x) : Bfs n gens (i + 1) 0 found (rows ++ [row]) [] m := by
  obtain ⟨m0, a1, a2, a3⟩ := B.made
  have il := (List.getElem?_eq_some_iff.mp hx).1
  refine ⟨B.nd, B.val, B.gval, B.head, by rw [List.length_append, B.len]; rfl, fun j r h => ?_, fun j r h k t ht => ?_, rfl, fun k t h => by simp at h, ⟨m, ?_, fun z => (z rfl).elim, rfl⟩, B.mlen, il⟩
  · rcases snoc_cases h with h | ⟨rfl, rfl⟩
    · exact B.wid j r h
    · rw [B.rlen, hc]
  · rcases snoc_cases h with h | ⟨rfl, rfl⟩
    · exact B.ent j r h k t ht
    · rw [B.len]
      exact B.rent k t ht
  · rw [madeTab_snoc, a1, Option.bind_some, Nat.zero_add, B.len, if_neg (by have := a2 c0; omega)]
    exact a3
/-- the end of the search -/
theorem Bfs.tab (B : Bfs n gens i 0 found rows [] m) (h : found.length ≤ i) : Tab n gens found rows ∧ madeTab 0 rows [] = some m ∧ m.length + 1 = rows.length := by
  obtain ⟨m0, a1, a2, a3⟩ := B.made
  have e : m0 = m := Option.some.inj a3
  subst e
  have le := B.le
  have l := B.len
  have ml := B.mlen
  exact ⟨⟨B.nd, B.val, B.gval, B.head, by omega, B.wid, B.ent⟩, a1, by omega⟩
end
end Mon

set_option Elab.async false
set_option linter.all false
set_option maxRecDepth 100000
set_option maxHeartbeats 4000000
/-! How many words lead to each element: pure. -/
namespace Mon
/-- how often each number below N stands in I -/
def cvec (N : Nat) (I : List Nat) : List Nat := (List.range N).map fun k => I.count k
theorem cvec_len {N : Nat} {I : List Nat} : (cvec N I).length = N := by simp [cvec]
theorem cvec_get {N k : Nat} {I : List Nat} (h : k < N) : (cvec N I)[k]? = some (I.count k) := by simp [cvec, h]
def bump (f : List Nat) (t many : Nat) : List Nat := f.set t (f.getD t 0 + many)
def rowBump (f row : List Nat) (many : Nat) : List Nat := row.foldl (fun f t => bump f t many) f
def stepF (f : List Nat) : List (List Nat) → List Nat → List Nat
  | row :: rows, c :: cs => stepF (rowBump f row c) rows cs
  | _, _ => f
def stepC (rows : List (List Nat)) (cs : List Nat) : List Nat := stepF (List.replicate rows.length 0) rows cs
def dp (rows : List (List Nat)) : Nat → List Nat
  | 0 => (List.replicate rows.length 0).set 0 1
  | t + 1 => stepC rows (dp rows t)
theorem bump_len {f : List Nat} {t many : Nat} : (bump f t many).length = f.length := by simp [bump]
theorem rowBump_len : ∀ {row f : List Nat} {many : Nat}, (rowBump f row many).length = f.length
  | [], f, many => rfl
  | t :: row, f, many => by
    show (rowBump (bump f t many) row many).length = _
    rw [rowBump_len, bump_len]
theorem bump_at {f : List Nat} {t many k : Nat} (h : t < f.length) : (bump f t many).getD k 0 = f.getD k 0 + (if t = k then many else 0) := by
  unfold bump
  by_cases e : t = k
  · subst e
    rw [if_pos rfl]
    simp [List.getD, h]
  · rw [if_neg e]
    simp [List.getD, List.getElem?_set_ne e]
theorem rowBump_at : ∀ {row f : List Nat} {many k : Nat}, (∀ t ∈ row, t < f.length) → (rowBump f row many).getD k 0 = f.getD k 0 + row.count k * many
  | [], f, many, k, _ => by
    show f.getD k 0 = f.getD k 0 + 0 * many
    omega
  | t :: row, f, many, k, h => by
    show (rowBump (bump f t many) row many).getD k 0 = _
    rw [rowBump_at (fun u hu => by rw [bump_len]; exact h u (List.mem_cons_of_mem _ hu)), bump_at (h t List.mem_cons_self), List.count_cons]
    by_cases e : t = k
    · subst e
      simp only [if_true, beq_self_eq_true]
      rw [Nat.add_mul]
      omega
    · have e' : (t == k) = false := beq_eq_false_iff_ne.mpr e
      rw [if_neg e, e', if_neg (by decide), Nat.add_zero, Nat.add_zero]
/-- what the rows add to number k -/
def wsum (k : Nat) : List (List Nat) → List Nat → Nat
  | row :: rows, c :: cs => row.count k * c + wsum k rows cs
  | _, _ => 0
theorem stepF_len : ∀ {rows : List (List Nat)} {cs f : List Nat}, (stepF f rows cs).length = f.length
  | [], cs, f => by cases cs <;> rfl
  | row :: rows, [], f => rfl
  | row :: rows, c :: cs, f => by
    show (stepF (rowBump f row c) rows cs).length = _
    rw [stepF_len, rowBump_len]
theorem stepF_at {k : Nat} : ∀ {rows : List (List Nat)} {cs f : List Nat}, (∀ row ∈ rows, ∀ t ∈ row, t < f.length) → (stepF f rows cs).getD k 0 = f.getD k 0 + wsum k rows cs
  | [], cs, f, _ => by
    cases cs <;> rfl
  | row :: rows, [], f, _ => rfl
  | row :: rows, c :: cs, f, h => by
    show (stepF (rowBump f row c) rows cs).getD k 0 = f.getD k 0 + (row.count k * c + wsum k rows cs)
    rw [stepF_at (fun r hr t ht => by rw [rowBump_len]; exact h r (List.mem_cons_of_mem _ hr) t ht), rowBump_at (h row List.mem_cons_self)]
    omega
theorem stepC_len {rows : List (List Nat)} {cs : List Nat} : (stepC rows cs).length = rows.length := by rw [stepC, stepF_len, List.length_replicate]
theorem dp_len {rows : List (List Nat)} : ∀ {t : Nat}, (dp rows t).length = rows.length
  | 0 => by simp [dp]
  | t + 1 => by rw [dp, stepC_len]
/-- summed over the places, or over what stands there -/
theorem sum_set {h : Nat → Nat} : ∀ (I : List Nat) (N s : Nat), (∀ x ∈ I, s ≤ x ∧ x < s + N) → (I.map h).sum = ((List.range' s N).map fun j => I.count j * h j).sum
  | [], N, s, _ => by
    rw [List.map_nil, List.sum_nil]
    induction N generalizing s with
    | zero => rfl
    | succ N ih => rw [List.range'_succ, List.map_cons, List.sum_cons, ← ih (s + 1) fun y hy => (by cases hy)]; simp
  | x :: I, N, s, hx => by
    have ih := sum_set (h := h) I N s fun y hy => hx y (List.mem_cons_of_mem _ hy)
    have hb := hx x List.mem_cons_self
    rw [List.map_cons, List.sum_cons, ih]
    suffices g : ∀ (N s : Nat), ((List.range' s N).map fun j => (x :: I).count j * h j).sum = (if s ≤ x ∧ x < s + N then h x else 0) + ((List.range' s N).map fun j => I.count j * h j).sum by
      rw [g, if_pos hb]
    intro N
    induction N with
    | zero =>
      intro s
      rw [if_neg (by omega)]
      rfl
    | succ N ih2 =>
      intro s
      rw [List.range'_succ, List.map_cons, List.sum_cons, List.map_cons, List.sum_cons, ih2, List.count_cons]
      by_cases e : x = s
      · subst e
        rw [beq_self_eq_true, if_pos rfl, if_neg (show ¬ (x + 1 ≤ x ∧ x < x + 1 + N) by omega), if_pos (show x ≤ x ∧ x < x + (N + 1) by omega), Nat.add_mul]
        omega
      · have e' : (x == s) = false := beq_eq_false_iff_ne.mpr e
        rw [e', if_neg (by decide), Nat.add_zero]
        by_cases b : s + 1 ≤ x ∧ x < s + 1 + N
        · rw [if_pos b, if_pos (show s ≤ x ∧ x < s + (N + 1) by omega)]
          omega
        · rw [if_neg b, if_neg (show ¬ (s ≤ x ∧ x < s + (N + 1)) by omega)]
          omega
theorem wsum_eq {k : Nat} : ∀ (rows : List (List Nat)) (g : Nat → Nat) (s : Nat), wsum k rows ((List.range' s rows.length).map g) = ((List.range' s rows.length).map fun j => g j * (rows.getD (j - s) []).count k).sum
  | [], g, s => rfl
  | row :: rows, g, s => by
    rw [List.length_cons, List.range'_succ, List.map_cons, List.map_cons, List.sum_cons]
    show row.count k * g s + wsum k rows _ = _
    rw [wsum_eq rows g (s + 1)]
    have e : (List.range' (s + 1) rows.length).map (fun j => g j * (rows.getD (j - (s + 1)) []).count k) = (List.range' (s + 1) rows.length).map fun j => g j * ((row :: rows).getD (j - s) []).count k := by
      refine List.map_congr_left fun j hj => ?_
      have := List.mem_range'_1.mp hj
      obtain ⟨d, rfl⟩ : ∃ d, j = s + 1 + d := ⟨j - (s + 1), by omega⟩
      rw [show s + 1 + d - (s + 1) = d by omega, show s + 1 + d - s = d + 1 by omega]
      rfl
    rw [e, Nat.sub_self, Nat.mul_comm]
    rfl
theorem ext_getD {f g : List Nat} (l : f.length = g.length) (h : ∀ k, k < f.length → f.getD k 0 = g.getD k 0) : f = g := by
  refine List.ext_getElem l fun k h1 h2 => ?_
  have := h k h1
  rwa [getD_at h1, getD_at h2] at this
/-- a letter more -/
theorem step_cvec {rows : List (List Nat)} {I : List Nat} (hr : ∀ row ∈ rows, ∀ t ∈ row, t < rows.length) (hI : ∀ x ∈ I, x < rows.length) : stepC rows (cvec rows.length I) = cvec rows.length (I.flatMap fun j => rows.getD j []) := by
  refine ext_getD (by rw [stepC_len, cvec_len]) fun k hk => ?_
  rw [stepC_len] at hk
  rw [stepC, stepF_at (fun r hr' t ht => by rw [List.length_replicate]; exact hr r hr' t ht), getD_of (cvec_get hk), cvec, List.range_eq_range', wsum_eq, List.count_flatMap]
  have z : (List.replicate rows.length 0).getD k 0 = 0 := by simp [List.getD, hk]
  rw [z, Nat.zero_add]
  have s := sum_set (h := fun j => (rows.getD j []).count k) I rows.length 0 fun x hx => ⟨Nat.zero_le _, by have := hI x hx; omega⟩
  simp only [Nat.sub_zero]
  exact s.symm
/-- the numbers of the products of all words of a length -/
def idx (rows : List (List Nat)) : Nat → List Nat
  | 0 => [0]
  | t + 1 => (idx rows t).flatMap fun j => rows.getD j []
theorem idx_lt {rows : List (List Nat)} (h0 : 0 < rows.length) (hr : ∀ row ∈ rows, ∀ t ∈ row, t < rows.length) : ∀ (t : Nat), ∀ x ∈ idx rows t, x < rows.length
  | 0, x, hx => by
    rw [idx, List.mem_singleton] at hx
    omega
  | t + 1, x, hx => by
    rw [idx] at hx
    obtain ⟨j, _, hj⟩ := List.mem_flatMap.mp hx
    cases e : rows[j]? with
    | none => rw [List.getD, e] at hj; cases hj
    | some row =>
      rw [getD_of e] at hj
      exact hr row (List.mem_of_getElem? e) x hj
theorem dp_idx {rows : List (List Nat)} (h0 : 0 < rows.length) (hr : ∀ row ∈ rows, ∀ t ∈ row, t < rows.length) : ∀ (t : Nat), dp rows t = cvec rows.length (idx rows t)
  | 0 => by
    refine ext_getD (by rw [dp_len, cvec_len]) fun k hk => ?_
    rw [dp_len] at hk
    rw [getD_of (cvec_get hk), dp, idx]
    cases k with
    | zero => simp [List.getD, h0]
    | succ k => simp [List.getD, hk, List.count_cons]
  | t + 1 => by rw [dp, dp_idx h0 hr t, step_cvec hr (idx_lt h0 hr t), idx]
theorem ones : ∀ (I : List Nat), (I.map fun _ => 1).sum = I.length
  | [] => rfl
  | x :: I => by rw [List.map_cons, List.sum_cons, ones I, List.length_cons, Nat.add_comm]
theorem cvec_sum {N : Nat} {I : List Nat} (h : ∀ x ∈ I, x < N) : (cvec N I).sum = I.length := by
  have s : (I.map fun _ => 1).sum = ((List.range' 0 N).map fun j => I.count j * 1).sum := sum_set I N 0 fun x hx => ⟨Nat.zero_le _, by have := h x hx; omega⟩
  rw [cvec, List.range_eq_range']
  rw [show ((List.range' 0 N).map fun j => I.count j * 1) = (List.range' 0 N).map fun k => I.count k from List.map_congr_left fun j _ => Nat.mul_one _] at s
  rw [← s]
  exact ones I
end Mon

set_option Elab.async false
set_option linter.all false
set_option maxRecDepth 100000
set_option maxHeartbeats 8000000
namespace K18
open PySem PySem.Spec PyProof.Rows L2 Lf
/-- a method of Monoid -/
structure DefM (P : Program) (w : World) (K : PySem.W.Frag) (mg : Str → Option Value) (base : Heap) (CX : CXT) (k : Nat) (m : Str) (ps : List Str) (sp : Sp) : Prop where
  ex : ∃ f fd, Meth K (He.ga K "Monoid") m f ∧ FnOk P w K mg base CX k f fd ps sp ∧ Binds K fd ps []
def spSize (K : PySem.W.Frag) : Sp := fun vs H Q _ => ∃ p rows m, vs = [.ref p] ∧ Mo K H p rows m ∧ Q (.int (rows.length : Nat)) H
theorem flat_rep {n : Nat} : (List.replicate n [V.int 0]).flatten = (List.replicate n 0).map nv := by
  induction n with
  | zero => rfl
  | succ n ih => rw [List.replicate_succ, List.replicate_succ, List.flatten_cons, ih]; rfl
/-- o[i], i from the front -/
def rGetN (K : PySem.W.Frag) : V → V → Hp → VK → Prop := fun o i H Q => ∃ (p : Addr) (xs : List V) (j : Nat) (v : V), o = .ref p ∧ i = .int (j : Nat) ∧ SqL K H p xs ∧ xs[j]? = some v ∧ Q v H
theorem get_listN {X : Cx} : PGet X (rGetN X.K) := by
  intro pins s σ H o i ov iv Q I ro ri h
  obtain ⟨p, xs, j, v, rfl, rfl, hq, hv, q⟩ := h
  cases ro
  obtain ⟨t, rfl⟩ := ri
  obtain ⟨its, r, pl, hz⟩ := I.list hq
  obtain ⟨w, ew, rw'⟩ := r.get hv
  have lj := (List.getElem?_eq_some_iff.mp hv).1
  have z : sizeLine = 16777216 := sizeLine_eq
  exact wpAny_getItem_list pl.isList (by omega) (by omega) (by rw [show ((j : Nat) : Int).toNat = j by omega]; simpa using ew) ⟨v, H, I, rw', q⟩
theorem bump_nv {f : List Nat} {t many : Nat} : (f.map nv).set t (.int ((f.getD t 0 : Nat) + (many : Nat) : Int)) = (Mon.bump f t many).map nv := by
  unfold Mon.bump
  rw [List.map_set]
  rfl
theorem ixn {n j : Nat} (h : j < n) : ixN n (j : Nat) = some j := by
  unfold ixN
  rw [if_pos (by omega), if_pos (by omega)]
  rfl
theorem stepF_app {r2 : List (List Nat)} {c2 : List Nat} : ∀ {r1 : List (List Nat)} {c1 f : List Nat}, r1.length = c1.length → Mon.stepF f (r1 ++ r2) (c1 ++ c2) = Mon.stepF (Mon.stepF f r1 c1) r2 c2
  | [], [], f, _ => rfl
  | [], _ :: _, _, h => by simp at h
  | _ :: _, [], _, h => by simp at h
  | r :: r1, c :: c1, f, h => by
    show Mon.stepF (Mon.rowBump f r c) (r1 ++ r2) (c1 ++ c2) = Mon.stepF (Mon.stepF (Mon.rowBump f r c) r1 c1) r2 c2
    exact stepF_app (by simpa using h)
theorem stepF_snoc {rows : List (List Nat)} {cs f : List Nat} {j c : Nat} {row : List Nat} (h1 : rows[j]? = some row) (h2 : cs[j]? = some c) : Mon.stepF f (rows.take (j + 1)) (cs.take (j + 1)) = Mon.rowBump (Mon.stepF f (rows.take j) (cs.take j)) row c := by
  rw [take_snoc h1, take_snoc h2, stepF_app (by rw [List.length_take, List.length_take]; have := get_lt h1; have := get_lt h2; omega)]
  rfl
theorem rowBump_snoc {f row : List Nat} {c k t : Nat} (h : row[k]? = some t) : Mon.rowBump f (row.take (k + 1)) c = Mon.bump (Mon.rowBump f (row.take k) c) t c := by
  rw [take_snoc h]
  unfold Mon.rowBump
  rw [List.foldl_append]
  rfl
theorem dp_pos {rows : List (List Nat)} : ∀ {t : Nat}, (Mon.dp rows t).length = rows.length := fun {t} => Mon.dp_len
section
variable {P : Program} {w : World} {K : PySem.W.Frag} {mg : Str → Option Value} {base : Heap}
theorem scSize : FnScope ["self"] ["self"] (defScope s_Monoid_size) := ⟨rfl, rfl, rfl, by decide +kernel, rfl, by decide +kernel, by decide +kernel⟩
theorem ok_size {f : Addr} {fd : FuncData} {q : Str} (F : FunD K "size" q (defArgs s_Monoid_size) (defBody s_Monoid_size) (defScope s_Monoid_size) [] [] f fd) (T : Txt P w K mg base) :
    FnOk P w K mg base CX0 1 f fd ["self"] (spSize K) := by
  have cl : L2.Cls K (He.ga K "Monoid") := He.cls_ok (T.d.fact 41 (f := .cls "Monoid") rfl)
  have n1 : NoAttr K (He.ga K "Monoid") "right" := He.noat_ok (T.d.fact 51 (f := .noat "Monoid" "right") rfl)
  have zn : mg "len" = none := T.fr 35 "len" rfl
  refine F.ok scSize (fun vs H Q E h => ?_) (fun cdv A outer s H vs Q E hr h => ?_)
  · obtain ⟨p, rows, m, rfl, _⟩ := h
    rfl
  · obtain ⟨p, rows, m, rfl, M, k⟩ := h
    obtain ⟨dx, t, u, v, hp, R, _, _⟩ := M.ex
    obtain ⟨as, sr, la, _⟩ := R.ex
    refine ⟨_, PSs.nox (pss_one (ps_ret (pe_callB call_len_seq rfl zn boot_len (pa_cons (pe_fld (pv 0) rfl) pa_nil)))), ?_⟩
    refine ⟨_, rfl, p, _, dx, _, _, rfl, hp, cl, n1, rfl, t, as.map V.ref, rfl, .inr sr, ?_⟩
    rw [List.length_map, la]
    exact k
end
end K18

set_option Elab.async false
set_option linter.all false
/-! How long the words are: pure. -/
namespace Mon
theorem pw_const {v : Nat} : ∀ {l : List Nat}, (∀ a ∈ l, a = v) → l.Pairwise (· ≤ ·)
  | [], _ => .nil
  | x :: l, h => .cons (fun a ha => by rw [h x List.mem_cons_self, h a (List.mem_cons_of_mem _ ha)]; exact Nat.le_refl _) (pw_const fun a ha => h a (List.mem_cons_of_mem _ ha))
theorem madeTab_sorted : ∀ {rows : List (List Nat)} {i : Nat} {m m' : List (Nat × Nat)}, madeTab i rows m = some m' → ∃ e, m' = m ++ e ∧ (e.map (·.1)).Pairwise (· ≤ ·) ∧ ∀ p ∈ e, i ≤ p.1
  | [], i, m, m', h => by
    simp only [madeTab, Option.some.injEq] at h
    exact ⟨[], by simp [h], by simp, fun p hp => by cases hp⟩
  | row :: rows, i, m, m', h => by
    simp only [madeTab] at h
    split at h
    · cases h
    · cases hr : madeRow i 0 row m with
      | none => rw [hr] at h; cases h
      | some m1 =>
        rw [hr, Option.bind_some] at h
        obtain ⟨e1, he1, q1⟩ := madeRow_ok hr
        obtain ⟨e2, he2, p2, g2⟩ := madeTab_sorted h
        have all1 : ∀ p ∈ e1, p.1 = i := fun p hp => by
          obtain ⟨k, hk⟩ := List.getElem?_of_mem hp
          exact (q1 k p hk).1
        refine ⟨e1 ++ e2, by rw [he2, he1, List.append_assoc], ?_, fun p hp => ?_⟩
        · rw [List.map_append, List.pairwise_append]
          refine ⟨?_, p2, fun a ha b hb => ?_⟩
          · exact pw_const (v := i) fun a ha => by
              obtain ⟨p, hp, rfl⟩ := List.mem_map.mp ha
              exact all1 p hp
          · obtain ⟨pa, hpa, rfl⟩ := List.mem_map.mp ha
            obtain ⟨pb, hpb, rfl⟩ := List.mem_map.mp hb
            have := g2 pb hpb
            rw [all1 pa hpa]
            omega
        · rcases List.mem_append.mp hp with z | z
          · rw [all1 p z]
            exact Nat.le_refl _
          · have := g2 p z
            omega
theorem made_le {rows : List (List Nat)} {m : List (Nat × Nat)} (h : madeTab 0 rows [] = some m) {i j : Nat} {p q : Nat × Nat} (hp : m[i]? = some p) (hq : m[j]? = some q) (ij : i ≤ j) : p.1 ≤ q.1 := by
  obtain ⟨e, he, pw, _⟩ := madeTab_sorted h
  rw [List.nil_append] at he
  subst he
  rcases Nat.eq_or_lt_of_le ij with z | z
  · subst z
    rw [hp] at hq
    cases hq
    exact Nat.le_refl _
  · obtain ⟨a1, a2⟩ := List.getElem?_eq_some_iff.mp hp
    obtain ⟨b1, b2⟩ := List.getElem?_eq_some_iff.mp hq
    rw [List.pairwise_map] at pw
    have := List.pairwise_iff_getElem.mp pw i j a1 b1 z
    rw [a2, b2] at this
    exact this
/-- the lengths of the words -/
def lens (m : List (Nat × Nat)) : List Nat := (wordTab m).map List.length
theorem lens_len {m : List (Nat × Nat)} : (lens m).length = m.length + 1 := by rw [lens, List.length_map, word_len]
theorem lens_snoc {m : List (Nat × Nat)} {p : Nat × Nat} (h : p.1 < m.length + 1) : lens (m ++ [p]) = lens m ++ [(lens m).getD p.1 0 + 1] := by
  unfold lens
  rw [word_snoc, wordStep, List.map_append, List.map_cons, List.map_nil, List.length_append]
  have e : (wordTab m)[p.1]? = some ((wordTab m)[p.1]'(by rw [word_len]; exact h)) := List.getElem?_eq_getElem (by rw [word_len]; exact h)
  rw [getD_of e]
  have e2 : ((wordTab m).map List.length)[p.1]? = some ((wordTab m)[p.1]'(by rw [word_len]; exact h)).length := by rw [List.getElem?_map, e]; rfl
  rw [getD_of e2]
  rfl
section
variable {m : List (Nat × Nat)}
theorem take_app_len {α : Type} {l : List α} {k : Nat} {x : α} (h : l[k]? = some x) : l.take (k + 1) = l.take k ++ [x] := (take_cons h).2.1
theorem lens_take (hm : ∀ (k : Nat) p, m[k]? = some p → p.1 < k + 1) : ∀ (k : Nat), k ≤ m.length → lens (m.take k) = (lens m).take (k + 1) := by
  suffices g : ∀ (d k : Nat), k + d = m.length → lens (m.take k) = (lens m).take (k + 1) from fun k hk => g (m.length - k) k (by omega)
  intro d
  induction d with
  | zero =>
    intro k e
    rw [List.take_of_length_le (by omega), List.take_of_length_le (by rw [lens_len]; omega)]
  | succ d ih =>
    intro k e
    have hk : k < m.length := by omega
    have hp : m[k]? = some m[k] := List.getElem?_eq_getElem hk
    have q := ih (k + 1) (by omega)
    have lk : (m.take k).length = k := by rw [List.length_take]; omega
    rw [take_app_len hp, lens_snoc (by rw [lk]; exact hm k _ hp)] at q
    have l1 : (lens (m.take k)).length = k + 1 := by rw [lens_len, lk]
    have q2 := congrArg (List.take (k + 1)) q
    rw [List.take_left' l1, List.take_take, Nat.min_eq_left (by omega)] at q2
    exact q2
theorem lens_at (hm : ∀ (k : Nat) p, m[k]? = some p → p.1 < k + 1) {k : Nat} {p : Nat × Nat} (hp : m[k]? = some p) : (lens m).getD (k + 1) 0 = (lens m).getD p.1 0 + 1 := by
  have hk := (List.getElem?_eq_some_iff.mp hp).1
  have lk : (m.take k).length = k := by rw [List.length_take]; omega
  have pk := hm k p hp
  have q := lens_take hm (k + 1) hk
  rw [take_app_len hp, lens_snoc (by rw [lk]; exact pk)] at q
  have l1 : (lens (m.take k)).length = k + 1 := by rw [lens_len, lk]
  have a : ((lens m).take (k + 2))[k + 1]? = some ((lens (m.take k)).getD p.1 0 + 1) := by
    rw [← q, List.getElem?_append_right (by omega), l1, Nat.sub_self]
    rfl
  rw [List.getElem?_take_of_lt (by omega)] at a
  rw [getD_of a, lens_take hm k (by omega)]
  have b : ((lens m).take (k + 1))[p.1]? = (lens m)[p.1]? := List.getElem?_take_of_lt pk
  rw [List.getD, List.getD, b]
theorem lens_0 : (lens m).getD 0 0 = 0 := by
  have e : (lens m)[0]? = some 0 := by
    have h : (lens m).take 1 = lens (m.take 0) ∨ True := .inr trivial
    unfold lens wordTab
    suffices g : ∀ (m : List (Nat × Nat)) (L : List (List Nat)), L[0]? = some [] → ((m.foldl wordStep L))[0]? = some [] by
      rw [List.getElem?_map, g m [[]] rfl]
      rfl
    intro m
    induction m with
    | nil => intro L h; exact h
    | cons p r ih =>
      intro L h
      rw [List.foldl_cons]
      refine ih _ ?_
      unfold wordStep
      exact get_app _ h
  rw [getD_of e]
theorem lens_mono {rows : List (List Nat)} (h : madeTab 0 rows [] = some m) : ∀ (N i j : Nat), i ≤ j → j ≤ N → N < m.length + 1 → (lens m).getD i 0 ≤ (lens m).getD j 0 := by
  have hm : ∀ (k : Nat) p, m[k]? = some p → p.1 < k + 1 := fun k p hp => (madeTab_lt h hp).1
  intro N
  induction N with
  | zero =>
    intro i j ij jN _
    rw [show i = j by omega]
    exact Nat.le_refl _
  | succ N ih =>
    intro i j ij jN hN
    by_cases z : j ≤ N
    · exact ih i j ij z (by omega)
    · by_cases z2 : i = j
      · rw [z2]
        exact Nat.le_refl _
      · have ej : j = N + 1 := by omega
        subst ej
        have hq : m[N]? = some m[N] := List.getElem?_eq_getElem (by omega)
        have s1 := ih i N (by omega) (Nat.le_refl _) (by omega)
        refine Nat.le_trans s1 ?_
        rw [lens_at hm hq]
        cases N with
        | zero => rw [lens_0]; exact Nat.zero_le _
        | succ N =>
          have hp : m[N]? = some m[N] := List.getElem?_eq_getElem (by omega)
          rw [lens_at hm hp]
          have := made_le h hp hq (by omega)
          have b := hm _ _ hq
          exact Nat.succ_le_succ (ih _ _ this (by omega) (by omega))
theorem lens_all {rows : List (List Nat)} (h : madeTab 0 rows [] = some m) : ∀ (N k l : Nat), k ≤ N → k < m.length + 1 → l ≤ (lens m).getD k 0 → ∃ j, j < m.length + 1 ∧ (lens m).getD j 0 = l := by
  have hm : ∀ (k : Nat) p, m[k]? = some p → p.1 < k + 1 := fun k p hp => (madeTab_lt h hp).1
  intro N
  induction N with
  | zero =>
    intro k l hk hk2 hl
    have : k = 0 := by omega
    subst this
    rw [lens_0] at hl
    exact ⟨0, hk2, by rw [lens_0]; omega⟩
  | succ N ih =>
    intro k l hk hk2 hl
    by_cases e : l = (lens m).getD k 0
    · exact ⟨k, hk2, e.symm⟩
    · cases k with
      | zero => exact ih 0 l (Nat.zero_le _) hk2 hl
      | succ k =>
        have hp : m[k]? = some m[k] := List.getElem?_eq_getElem (by omega)
        have b := hm _ _ hp
        rw [lens_at hm hp] at hl e
        exact ih m[k].1 l (by omega) (by omega) (by omega)
/-- the greatest length -/
def top (m : List (Nat × Nat)) : Nat := (lens m).getD m.length 0
theorem lens_le {rows : List (List Nat)} (h : madeTab 0 rows [] = some m) : ∀ x ∈ lens m, x < top m + 1 := fun x hx => by
  obtain ⟨i, hi⟩ := List.getElem?_of_mem hx
  have il := (List.getElem?_eq_some_iff.mp hi).1
  rw [lens_len] at il
  have := lens_mono h m.length i m.length (by omega) (Nat.le_refl _) (by omega)
  rw [getD_of hi] at this
  exact Nat.lt_succ_of_le this
theorem top_short {m : List (Nat × Nat)} (hs : ∀ w ∈ wordTab m, w.length ≤ m.length) : top m ≤ m.length := by
  have e : (lens m)[m.length]? = some ((lens m)[m.length]'(by rw [lens_len]; omega)) := List.getElem?_eq_getElem _
  rw [top, getD_of e]
  have hm := List.mem_of_getElem? e
  generalize (lens m)[m.length]'(by rw [lens_len]; omega) = z at hm
  unfold lens at hm
  obtain ⟨w, hw, rfl⟩ := List.mem_map.mp hm
  exact hs w hw
/-- how many words have each length -/
def grow (m : List (Nat × Nat)) : List Nat := cvec (top m + 1) (lens m)
theorem grow_bump {rows : List (List Nat)} (h : madeTab 0 rows [] = some m) : rowBump (List.replicate (top m + 1) 0) (lens m) 1 = grow m := by
  refine ext_getD (by rw [rowBump_len, List.length_replicate, grow, cvec_len]) fun k hk => ?_
  rw [rowBump_len, List.length_replicate] at hk
  rw [rowBump_at (fun t ht => by rw [List.length_replicate]; exact lens_le h t ht), grow, getD_of (cvec_get hk)]
  simp [List.getD, hk]
theorem grow_pos {rows : List (List Nat)} (h : madeTab 0 rows [] = some m) : 0 ∉ grow m := fun hz => by
  unfold grow cvec at hz
  obtain ⟨l, hl, e⟩ := List.mem_map.mp hz
  obtain ⟨j, hj, e2⟩ := lens_all h m.length m.length l (Nat.le_refl _) (by omega) (by have := List.mem_range.mp hl; unfold top at this; omega)
  have hj' : (lens m)[j]? = some l := by
    have : j < (lens m).length := by rw [lens_len]; exact hj
    rw [List.getElem?_eq_getElem this, ← e2, getD_at this]
  have := List.count_pos_iff.mpr (List.mem_of_getElem? hj')
  omega
theorem grow_le : ∀ x ∈ grow m, x ≤ m.length + 1 := fun x hx => by
  unfold grow cvec at hx
  obtain ⟨l, _, rfl⟩ := List.mem_map.mp hx
  rw [← lens_len]
  exact List.count_le_length
theorem grow_len : (grow m).length = top m + 1 := cvec_len
end
end Mon

set_option Elab.async false
set_option linter.all false
/-! Words letter by letter, the table walked: pure. -/
namespace Mon
section
variable {m : List (Nat × Nat)}
theorem word_take (hm : ∀ (k : Nat) p, m[k]? = some p → p.1 < k + 1) : ∀ (k : Nat), k ≤ m.length → wordTab (m.take k) = (wordTab m).take (k + 1) := by
  suffices g : ∀ (d k : Nat), k + d = m.length → wordTab (m.take k) = (wordTab m).take (k + 1) from fun k hk => g (m.length - k) k (by omega)
  intro d
  induction d with
  | zero =>
    intro k e
    rw [List.take_of_length_le (by omega), List.take_of_length_le (by rw [word_len]; omega)]
  | succ d ih =>
    intro k e
    have hk : k < m.length := by omega
    have hp : m[k]? = some m[k] := List.getElem?_eq_getElem hk
    have q := ih (k + 1) (by omega)
    have lk : (m.take k).length = k := by rw [List.length_take]; omega
    rw [take_app_len hp, word_snoc, wordStep] at q
    have l1 : (wordTab (m.take k)).length = k + 1 := by rw [word_len, lk]
    have q2 := congrArg (List.take (k + 1)) q
    rw [List.take_left' l1, List.take_take, Nat.min_eq_left (by omega)] at q2
    exact q2
/-- the word of a number, by that of the number before it -/
theorem word_at (hm : ∀ (k : Nat) p, m[k]? = some p → p.1 < k + 1) {k : Nat} {p : Nat × Nat} (hp : m[k]? = some p) : (wordTab m).getD (k + 1) [] = (wordTab m).getD p.1 [] ++ [p.2] := by
  have hk := (List.getElem?_eq_some_iff.mp hp).1
  have lk : (m.take k).length = k := by rw [List.length_take]; omega
  have pk := hm k p hp
  have q := word_take hm (k + 1) hk
  rw [take_app_len hp, word_snoc, wordStep] at q
  have l1 : (wordTab (m.take k)).length = k + 1 := by rw [word_len, lk]
  have a : ((wordTab m).take (k + 2))[k + 1]? = some ((wordTab (m.take k)).getD p.1 [] ++ [p.2]) := by
    rw [← q, List.getElem?_append_right (by omega), l1, Nat.sub_self]
    rfl
  rw [List.getElem?_take_of_lt (by omega)] at a
  rw [getD_of a, word_take hm k (by omega)]
  have b : ((wordTab m).take (k + 1))[p.1]? = (wordTab m)[p.1]? := List.getElem?_take_of_lt pk
  rw [List.getD, List.getD, b]
theorem word_0 : (wordTab m).getD 0 [] = [] := by
  have e : (wordTab m)[0]? = some [] := by
    unfold wordTab
    suffices g : ∀ (m : List (Nat × Nat)) (L : List (List Nat)), L[0]? = some [] → ((m.foldl wordStep L))[0]? = some [] from g m [[]] rfl
    intro m
    induction m with
    | nil => intro L h; exact h
    | cons p r ih =>
      intro L h
      rw [List.foldl_cons]
      refine ih _ ?_
      unfold wordStep
      exact get_app _ h
  rw [getD_of e]
end
/-- where letters lead -/
def walk (rows : List (List Nat)) (s : Nat) (w : List Nat) : Nat := w.foldl (fun i c => (rows.getD i []).getD c 0) s
def compW (gens : List (List Nat)) (x : List Nat) (w : List Nat) : List Nat := w.foldl (fun x c => comp x (gens.getD c [])) x
theorem walk_app {rows : List (List Nat)} {s : Nat} {u v : List Nat} : walk rows s (u ++ v) = walk rows (walk rows s u) v := by
  unfold walk
  rw [List.foldl_append]
/-- the table acts as the maps do -/
theorem Tab.walk {n : Nat} {gens found rows : List (List Nat)} (T : Tab n gens found rows) : ∀ {w : List Nat} {s : Nat} {x : List Nat}, found[s]? = some x → (∀ c ∈ w, c < gens.length) → found[Mon.walk rows s w]? = some (compW gens x w)
  | [], s, x, h, _ => h
  | c :: w, s, x, h, hw => by
    have hg : gens[c]? = some (gens[c]'(hw c List.mem_cons_self)) := List.getElem?_eq_getElem _
    have e := T.get h hg
    have r := T.walk (w := w) e fun d hd => hw d (List.mem_cons_of_mem _ hd)
    show found[Mon.walk rows ((rows.getD s []).getD c 0) w]? = some (compW gens (comp x (gens.getD c [])) w)
    rw [getD_of hg]
    exact r
end Mon

set_option Elab.async false
set_option linter.all false
set_option maxRecDepth 100000
set_option maxHeartbeats 8000000
namespace K18
open PySem PySem.Spec PyProof.Rows L2 Lf
def spLettersOf (K : PySem.W.Frag) : Sp := fun vs H Q _ => ∃ u m n, vs = [.ref u, .int (n : Nat)] ∧ MadeT K H u m ∧ (∀ (k : Nat) p, m[k]? = some p → p.1 < k + 1) ∧ n < m.length + 1 ∧ m.length ≤ 2000 ∧
  ∀ l H', Same H H' → H l = none → H' l = some (.lst (((Mon.wordTab m).getD n []).map nv)) → Q (.ref l) H'
def spEnd (K : PySem.W.Frag) : Sp := fun vs H Q _ => ∃ r l rows wd s w, vs = [.ref r, .int (s : Nat), .ref l] ∧ RowsT K H r rows ∧ Form rows wd ∧ s < rows.length ∧ SqL K H l (w.map nv) ∧ (∀ c ∈ w, c < wd) ∧ Q (.int (Mon.walk rows s w : Nat)) H
section
variable {P : Program} {w : World} {K : PySem.W.Frag} {mg : Str → Option Value} {base : Heap}
theorem scEnd : FnScope ["right", "start", "letters", "number", "letter"] ["right", "start", "letters"] (defScope s_end) := ⟨rfl, rfl, rfl, by decide +kernel, rfl, by decide +kernel, by decide +kernel⟩
theorem ok_end {f : Addr} {fd : FuncData} {q : Str} (F : FunD K "_end" q (defArgs s_end) (defBody s_end) (defScope s_end) [] [] f fd) : FnOk P w K mg base CX0 1 f fd ["right", "start", "letters"] (spEnd K) := by
  refine F.ok scEnd (fun vs H Q E h => ?_) (fun cdv A outer s H vs Q E hr h => ?_)
  · obtain ⟨r, l, rows, wd, s0, wl, rfl, _⟩ := h
    rfl
  · obtain ⟨r, l, rows, wd, s0, wl, rfl, R, FO, hs, sl, hw, k⟩ := h
    obtain ⟨as, sr, la, srow⟩ := R.ex
    obtain ⟨f1, f2, f3, f4, f5⟩ := FO
    refine ⟨_, PSs.nox (pss_cons (ps_set (i := 3) scEnd.nd rfl (.inl rfl) (pv 1))
      (pss_cons (ps_for PassesOwn.never rfl (pi_list (pv 2)) (pg_name (i := 4) scEnd.nd rfl (.inl rfl))
        (pss_one (ps_set (i := 3) scEnd.nd rfl (.inl rfl) (pe_ix ix_tup (pe_ix ix_tup (pv 0) (pv 3) (fun _ _ => rfl)) (pv 4) (fun _ _ => rfl)))))
      (pss_one (ps_ret (pv 3))))), ?_⟩
    refine ⟨_, rfl, _, rfl, l, rfl, ⟨_, sl⟩, for_list (K := K) (a := l) (xs := wl.map nv) (fun i σ Hn => ∃ v4 : Option V, σ = [some (.ref r), some (.int (s0 : Nat)), some (.ref l), some (.int (Mon.walk rows s0 (wl.take i) : Nat)), v4] ∧ Hn = H ∧ Mon.walk rows s0 (wl.take i) < rows.length)
      ⟨none, rfl, rfl, hs⟩ (fun i σ Hn _ ⟨_, _, e, _⟩ => by rw [e]; exact sl) (fun i x σ Hn hx ⟨v4, eσ, eH, lt⟩ => ?_) (fun σ Hn ⟨v4, eσ, eH, lt⟩ => ?_)⟩
    · subst eσ eH
      obtain ⟨c, hc, rfl⟩ := map_get hx
      have cw := hw c (List.mem_of_getElem? hc)
      have e : Mon.walk rows s0 (wl.take (i + 1)) = (rows.getD (Mon.walk rows s0 (wl.take i)) []).getD c 0 := by
        rw [take_snoc hc, Mon.walk_app]
        rfl
      rw [e]
      generalize Mon.walk rows s0 (wl.take i) = s1 at lt ⊢
      obtain ⟨a, ha⟩ := lt_get (show s1 < as.length by omega)
      obtain ⟨row, hrow⟩ := lt_get lt
      obtain ⟨l1, l2⟩ := f5 row (List.mem_of_getElem? hrow)
      obtain ⟨t, ht⟩ := lt_get (show c < row.length by omega)
      rw [Mon.getD_of hrow, Mon.getD_of ht]
      refine ⟨_, rfl, _, rfl, r, as.map V.ref, _, .ref a, rfl, rfl, sr, atI_nat (get_map ha), _, rfl, a, row.map nv, _, nv t, rfl, rfl, srow s1 a row ha hrow, atI_nat (get_map ht), _, rfl, rfl, l2 t (List.mem_of_getElem? ht)⟩
    · subst eσ eH
      rw [List.length_map, List.take_length]
      exact ⟨_, rfl, k⟩
theorem scLet : FnScope ["made", "number", "letters", "letter"] ["made", "number"] (defScope s_letters_of) := ⟨rfl, rfl, rfl, by decide +kernel, rfl, by decide +kernel, by decide +kernel⟩
theorem ok_letters {f : Addr} {fd : FuncData} {q : Str} (F : FunD K "_letters_of" q (defArgs s_letters_of) (defBody s_letters_of) (defScope s_letters_of) [] [] f fd) : FnOk P w K mg base CX0 1 f fd ["made", "number"] (spLettersOf K) := by
  refine F.ok scLet (fun vs H Q E h => ?_) (fun cdv A outer s H vs Q E hr h => ?_)
  · obtain ⟨u, m, n, rfl, _⟩ := h
    rfl
  · obtain ⟨u, m, n, rfl, MM, hlt, hn, m2, k⟩ := h
    obtain ⟨ps, sm, lp, sp⟩ := MM.ex
    refine ⟨_, PSs.nox (pss_cons (ps_set (i := 2) scLet.nd rfl (.inl rfl) (pe_lst pa_nil))
      (pss_cons (ps_while PassesOwn.never (pt_cmpR op_gt (pv 1) pe_int (nomark _))
        (pss_cons (ps_asg (pe_ix ix_tup (pv 0) (pv 1) (fun _ _ => rfl)) (pg_tup rfl (pgs_cons (pg_name (i := 1) scLet.nd rfl (.inl rfl)) (pgs_cons (pg_name (i := 3) scLet.nd rfl (.inl rfl)) pgs_nil))))
        (pss_one (ps_expr (pe_bm PySem.F.plainAttrs_list PySem.F.slot_list_append PySem.F.type_list_append mt_append (pv 2) (pa_cons (pv 3) pa_nil))))))
      (pss_one (ps_ret (pe_revL (pv 2)))))), ?_⟩
    refine ⟨(by show 0 ≤ sizeLine; decide), fun B nB => ?_⟩
    have s1 := same_upd (o := .lst []) nB
    have hB : L2.upd H B (.lst []) B = some (.lst (([] : List Nat).map nv)) := upd_same
    generalize L2.upd H B (.lst []) = H1 at s1 hB ⊢
    refine ⟨fun i σ Hn => ∃ (v3 : Option V) (acc : List Nat), σ = [some (.ref u), some (.int (i : Nat)), some (.ref B), v3] ∧ Same H Hn ∧ Hn B = some (.lst (acc.map nv)) ∧ i < m.length + 1 ∧ acc.length + i ≤ n ∧ (Mon.wordTab m).getD n [] = (Mon.wordTab m).getD i [] ++ acc.reverse,
      ⟨n, none, [], rfl, s1, hB, hn, by simp, by simp⟩, ?_⟩
    rintro i σ Hn ⟨v3, acc, rfl, sn, hBn, il, ln, ew⟩
    refine ⟨_, rfl, _, 0, rfl, rfl, _, rfl, ?_⟩
    by_cases i0 : i = 0
    · subst i0
      rw [show decide ((0 : Int) < ((0 : Nat) : Int)) = false by decide]
      refine ifF rfl ?_
      refine ⟨_, rfl, B, _, rfl, SqL.of hBn, fun l nl => ?_⟩
      have nl0 : H l = none := by
        cases e : H l with
        | none => rfl
        | some o => rw [sn _ _ e] at nl; cases nl
      refine k l _ (sn.trans (same_upd nl)) nl0 ?_
      rw [upd_same, ew, Mon.word_0, List.nil_append, List.map_reverse]
    · obtain ⟨j, rfl⟩ : ∃ j, i = j + 1 := ⟨i - 1, by omega⟩
      rw [show decide ((0 : Int) < ((j + 1 : Nat) : Int)) = true from decide_eq_true (by omega)]
      refine ifT rfl ?_
      obtain ⟨pr, hpr⟩ := lt_get (show j < m.length by omega)
      obtain ⟨pa, hpa⟩ := lt_get (show j < ps.length by omega)
      have b1 := hlt j pr hpr
      have hat : (V.non :: ps.map V.ref)[j + 1]? = some (.ref pa) := by
        rw [List.getElem?_cons_succ]
        exact get_map hpa
      refine ⟨fun σ' H' => ∃ i', i' < j + 1 ∧ ∃ (v3 : Option V) (acc : List Nat), σ' = [some (.ref u), some (.int (i' : Nat)), some (.ref B), v3] ∧ Same H H' ∧ H' B = some (.lst (acc.map nv)) ∧ i' < m.length + 1 ∧ acc.length + i' ≤ n ∧ (Mon.wordTab m).getD n [] = (Mon.wordTab m).getD i' [] ++ acc.reverse, fun σ' H' z => z, ?_⟩
      refine ⟨_, rfl, _, rfl, u, _, _, .ref pa, rfl, rfl, Lf.SqT.same sn sm, atI_nat hat, pa, _, rfl, Lf.SqT.same sn (sp j pa pr hpa hpr), rfl, _, _, rfl, _, _, rfl, rfl, ?_⟩
      refine ⟨_, rfl, .inl ⟨rfl, _, SqL.of hBn⟩, _, rfl, B, _, _, rfl, rfl, hBn, by rw [List.length_map]; show acc.length < 16777216; omega, pr.1, b1, _, acc ++ [pr.2], rfl, fun b o e => ?_, by rw [upd_same, List.map_append]; rfl, by omega, by rw [List.length_append, List.length_singleton]; omega, ?_⟩
      · rw [upd_ne (ne_of_none e nB)]
        exact sn b o e
      · rw [ew, Mon.word_at hlt hpr, List.reverse_append, List.append_assoc]
        rfl
end
end K18

set_option Elab.async false
set_option linter.all false
set_option maxRecDepth 100000
set_option maxHeartbeats 8000000
namespace K18
open PySem PySem.Spec PyProof.Rows L2 Lf
def spCkN (K : PySem.W.Frag) : Sp := fun vs H Q _ => ∃ p rows m n, vs = [.ref p, .int (n : Nat)] ∧ Mo K H p rows m ∧ n < rows.length ∧ Q .non H
def spLeftM (K : PySem.W.Frag) : Sp := fun vs H Q _ => ∃ p rows m, vs = [.ref p] ∧ Mo K H p rows m ∧ ∀ v, RowsT K H v (Mon.leftTab rows m) → Q (.ref v) H
def spTimes (K : PySem.W.Frag) : Sp := fun vs H Q _ => ∃ p rows m wd i j, vs = [.ref p, .int (i : Nat), .int (j : Nat)] ∧ Mo K H p rows m ∧ Form rows wd ∧ Mon.madeTab 0 rows [] = some m ∧ m.length + 1 = rows.length ∧ i < rows.length ∧ j < rows.length ∧
  ∀ H', Same H H' → Q (.int (Mon.walk rows i ((Mon.wordTab m).getD j []) : Nat)) H'
theorem word_lettersF {wd : Nat} : ∀ (m : List (Nat × Nat)) (L : List (List Nat)), (∀ p ∈ m, p.2 < wd) → (∀ w ∈ L, ∀ c ∈ w, c < wd) → ∀ w ∈ m.foldl Mon.wordStep L, ∀ c ∈ w, c < wd
  | [], L, _, h, w, hw => h w hw
  | p :: r, L, hm, h, w, hw => by
    refine word_lettersF r (Mon.wordStep L p) (fun q hq => hm q (List.mem_cons_of_mem _ hq)) (fun u hu c hc => ?_) w hw
    unfold Mon.wordStep at hu
    rcases List.mem_append.mp hu with g | g
    · exact h u g c hc
    · rw [List.mem_singleton.mp g] at hc
      rcases List.mem_append.mp hc with hc | hc
      · cases e : L[p.1]? with
        | none => rw [List.getD, e] at hc; cases hc
        | some v => rw [List.getD, e] at hc; exact h v (List.mem_of_getElem? e) c hc
      · rw [List.mem_singleton.mp hc]
        exact hm p List.mem_cons_self
/-- the letters of words are letters -/
theorem word_letters {rows : List (List Nat)} {wd : Nat} {m : List (Nat × Nat)} (FO : Form rows wd) (hm : Mon.madeTab 0 rows [] = some m) (j : Nat) : ∀ c ∈ (Mon.wordTab m).getD j [], c < wd := fun c hc => by
  have all : ∀ p ∈ m, p.2 < wd := fun p hp => by
    obtain ⟨k, hk⟩ := List.getElem?_of_mem hp
    obtain ⟨_, row, b, c⟩ := Mon.madeTab_lt hm hk
    have := (FO.2.2.2.2 row (List.mem_of_getElem? b)).1
    have := get_lt c
    omega
  cases e : (Mon.wordTab m)[j]? with
  | none => rw [List.getD, e] at hc; cases hc
  | some w =>
    rw [Mon.getD_of e] at hc
    exact word_lettersF m [[]] all (fun u hu d hd => by rw [List.mem_singleton.mp hu] at hd; cases hd) w (List.mem_of_getElem? e) c hc
section
variable {P : Program} {w : World} {K : PySem.W.Frag} {mg : Str → Option Value} {base : Heap}
theorem scCkN : FnScope ["self", "number"] ["self", "number"] (defScope s_Monoid_check_number) := ⟨rfl, rfl, rfl, by decide +kernel, rfl, by decide +kernel, by decide +kernel⟩
theorem ok_ckn {f : Addr} {fd : FuncData} {q : Str} (F : FunD K "_check_number" q (defArgs s_Monoid_check_number) (defBody s_Monoid_check_number) (defScope s_Monoid_check_number) [] [] f fd) (T : Txt P w K mg base)
    (DB : Def P w K mg base CX0 2 "is_between" ["thing", "least", "most"] spBtw) (DZ : DefM P w K mg base CX0 1 "size" ["self"] (spSize K)) : FnOk P w K mg base CX0 3 f fd ["self", "number"] (spCkN K) := by
  have cl : L2.Cls K (He.ga K "Monoid") := He.cls_ok (T.d.fact 41 (f := .cls "Monoid") rfl)
  obtain ⟨fz, fdz, mz, Fz, bz⟩ := DZ.ex
  refine F.ok scCkN (fun vs H Q E h => ?_) (fun cdv A outer s H vs Q E hr h => ?_)
  · obtain ⟨p, rows, m, n, rfl, _⟩ := h
    rfl
  · obtain ⟨p, rows, m, n, rfl, M, hn, k⟩ := h
    have r1 : Room 1 _ := hr.mono (by decide)
    obtain ⟨dx, _, _, _, hp, _⟩ := id M.ex
    refine ⟨_, PSs.nox (pss_one (ps_if (pt_not (pt_val (pe_def DB hr pass0 rfl (pa_cons (pv 1) (pa_cons pe_int (pa_cons (pe_op op_sub (pe_meth0 (pv 0) cl mz Fz r1 bz .nil pass0) pe_int) pa_nil)))))) (pss_one ps_never) pss_nil)), ?_⟩
    refine ⟨_, rfl, _, rfl, p, dx, _, rfl, hp, rfl, p, rows, m, rfl, M, _, 1, rfl, rfl, .int (n : Nat), 0, (rows.length : Int) - 1, rfl, True.intro, _, rfl, ?_⟩
    rw [show btw 0 ((rows.length : Int) - 1) (.int (n : Nat)) = true from btw_nv hn]
    exact ifF rfl k
theorem scLeftM : FnScope ["self"] ["self"] (defScope s_Monoid_left) := ⟨rfl, rfl, rfl, by decide +kernel, rfl, by decide +kernel, by decide +kernel⟩
theorem ok_leftM {f : Addr} {fd : FuncData} {q : Str} (F : FunD K "left" q (defArgs s_Monoid_left) (defBody s_Monoid_left) (defScope s_Monoid_left) [] [] f fd) (T : Txt P w K mg base) : FnOk P w K mg base CX0 1 f fd ["self"] (spLeftM K) := by
  have cl : L2.Cls K (He.ga K "Monoid") := He.cls_ok (T.d.fact 41 (f := .cls "Monoid") rfl)
  have n3 : NoAttr K (He.ga K "Monoid") "_left" := He.noat_ok (T.d.fact 53 (f := .noat "Monoid" "_left") rfl)
  refine F.ok scLeftM (fun vs H Q E h => ?_) (fun cdv A outer s H vs Q E hr h => ?_)
  · obtain ⟨p, rows, m, rfl, _⟩ := h
    rfl
  · obtain ⟨p, rows, m, rfl, M, k⟩ := h
    obtain ⟨dx, t, u, v, hp, R, MM, LL⟩ := id M.ex
    refine ⟨_, PSs.nox (pss_one (ps_ret (pe_fld (pv 0) rfl))), ?_⟩
    exact ⟨_, rfl, p, _, dx, _, _, rfl, hp, cl, n3, rfl, k v LL⟩
theorem scTimes : FnScope ["self", "one", "other"] ["self", "one", "other"] (defScope s_Monoid_times) := ⟨rfl, rfl, rfl, by decide +kernel, rfl, by decide +kernel, by decide +kernel⟩
theorem ok_times {f : Addr} {fd : FuncData} {q : Str} (F : FunD K "times" q (defArgs s_Monoid_times) (defBody s_Monoid_times) (defScope s_Monoid_times) [] [] f fd) (T : Txt P w K mg base)
    (DN : DefM P w K mg base CX0 3 "_check_number" ["self", "number"] (spCkN K)) (DE : Def P w K mg base CX0 1 "_end" ["right", "start", "letters"] (spEnd K)) (DL : Def P w K mg base CX0 1 "_letters_of" ["made", "number"] (spLettersOf K)) :
    FnOk P w K mg base CX0 4 f fd ["self", "one", "other"] (spTimes K) := by
  have cl : L2.Cls K (He.ga K "Monoid") := He.cls_ok (T.d.fact 41 (f := .cls "Monoid") rfl)
  have n1 : NoAttr K (He.ga K "Monoid") "right" := He.noat_ok (T.d.fact 51 (f := .noat "Monoid" "right") rfl)
  have n2 : NoAttr K (He.ga K "Monoid") "_made" := He.noat_ok (T.d.fact 52 (f := .noat "Monoid" "_made") rfl)
  obtain ⟨fn', fdn, mn, Fn, bn⟩ := DN.ex
  refine F.ok scTimes (fun vs H Q E h => ?_) (fun cdv A outer s H vs Q E hr h => ?_)
  · obtain ⟨p, rows, m, wd, i, j, rfl, _⟩ := h
    rfl
  · obtain ⟨p, rows, m, wd, i, j, rfl, M, FO, hm, lm, hi, hj, k⟩ := h
    have r1 : Room 1 _ := hr.mono (by decide)
    obtain ⟨dx, t, u, v, hp, R, MM, _⟩ := id M.ex
    have n2000 := FO.2.1
    refine ⟨_, PSs.nox (pss_cons (ps_expr (pe_meth (pv 0) cl mn Fn hr bn .nil pass0 (pa_cons (pv 1) pa_nil)))
      (pss_cons (ps_expr (pe_meth (pv 0) cl mn Fn hr bn .nil pass0 (pa_cons (pv 2) pa_nil)))
      (pss_one (ps_ret (pe_def DE r1 pass0 rfl (pa_cons (pe_fld (pv 0) rfl) (pa_cons (pv 1) (pa_cons (pe_def DL r1 pass0 rfl (pa_cons (pe_fld (pv 0) rfl) (pa_cons (pv 2) pa_nil))) pa_nil)))))))), ?_⟩
    refine ⟨_, rfl, p, dx, _, rfl, hp, rfl, _, rfl, p, rows, m, i, rfl, M, hi, ?_⟩
    refine ⟨_, rfl, p, dx, _, rfl, hp, rfl, _, rfl, p, rows, m, j, rfl, M, hj, ?_⟩
    refine ⟨_, rfl, p, _, dx, _, _, rfl, hp, cl, n1, rfl, _, rfl, _, rfl, p, _, dx, _, _, rfl, hp, cl, n2, rfl, _, rfl, u, m, j, rfl, MM, fun k' p' h' => (Mon.madeTab_lt hm h').1, by omega, by omega, fun l H1 s1 _ hl => ?_⟩
    exact ⟨t, l, rows, wd, i, _, rfl, R.same s1, FO, hi, SqL.of hl, word_letters FO hm j, k H1 s1⟩
end
end K18

set_option Elab.async false
set_option linter.all false
set_option maxRecDepth 100000
set_option maxHeartbeats 8000000
namespace K18
open PySem PySem.Spec PyProof.Rows L2 Lf
/-- a list of maps, as tuples -/
structure Maps (H : Hp) (p : Addr) (gens : List (List Nat)) : Prop where
  ex : ∃ as : List Addr, H p = some (.lst (as.map V.ref)) ∧ as.length = gens.length ∧ ∀ (i : Nat) a row, as[i]? = some a → gens[i]? = some row → H a = some (.tup (row.map nv))
theorem Maps.same {H H' : Hp} {p : Addr} {gens : List (List Nat)} (h : Maps H p gens) (e : Same H H') : Maps H' p gens := by
  obtain ⟨as, a, b, c⟩ := h.ex
  exact ⟨as, e _ _ a, b, fun i x row h1 h2 => e _ _ (c i x row h1 h2)⟩
theorem Maps.but {H H' : Hp} {l p : Addr} {a b c : Int} {gens : List (List Nat)} (hl : H l = some (.lst [.int a, .int b, .int c])) (h : Maps H p gens) (e : But l H H') : Maps H' p gens := by
  obtain ⟨as, h1, h2, h3⟩ := h.ex
  refine ⟨as, e _ _ (fun z => ?_) h1, h2, fun i x row g1 g2 => e _ _ (fun z => ?_) (h3 i x row g1 g2)⟩
  · rw [z, hl] at h1
    cases as with
    | nil => simp at h1
    | cons u r => simp at h1
  · have := h3 i x row g1 g2
    rw [z, hl] at this
    simp at this
theorem Src.un {H : Hp} {l : Addr} {n : Nat} (h : Src H l n) : ∃ a b c : Int, H l = some (.lst [.int a, .int b, .int c]) := by
  obtain ⟨a, b, c, e, _⟩ := h
  exact ⟨a, b, c, e⟩
theorem Src.ne {H : Hp} {l x : Addr} {n : Nat} (h : Src H l n) (nx : H x = none) : x ≠ l := fun z => by
  obtain ⟨a, b, c, e⟩ := h.un
  rw [← z, nx] at e
  cases e
theorem Src.upd {H : Hp} {l x : Addr} {n : Nat} {o : HO} (h : Src H l n) (nx : x ≠ l) : Src (L2.upd H x o) l n := by
  obtain ⟨a, b, c, e, r⟩ := h
  exact ⟨a, b, c, by rw [upd_ne nx.symm]; exact e, r⟩
def spMaps : Sp := fun vs H Q _ => ∃ (l : Addr) (n mp ml : Nat), vs = [.ref l, .int mp, .int ml] ∧ Src H l n ∧ n + 40 ≤ 1000000 ∧ 1 ≤ mp ∧ mp ≤ 4 ∧ 1 ≤ ml ∧ ml ≤ 6 ∧
  ∀ p gens size H', But l H H' → H p = none → Maps H' p gens → gens ≠ [] → gens.length ≤ ml → 1 ≤ size → size ≤ 4 → (∀ g ∈ gens, Mon.Valid size g) → Src H' l (n + 40) → Q (.ref p) H'
abbrev teDraw : TE := fun σ H Q => (tCons (tVar 0) (tCons (tVar 3) tNil)) σ H fun vs H1 => spDraw vs H1 Q E0
abbrev teMap (K : PySem.W.Frag) : TE := tCB (rTup K) (tCons (tLc (iRng1 (tCons (tVar 3) tNil)) (gName 5) tYes teDraw [5]) tNil)
/-- the scope of the comprehension over the turns -/
def scTurn : Scope := { kind := .function, names := [(".0", .local), ("_law_turn", .local), ("tuple", .globalImplicit), ("range", .globalImplicit), ("_law_size", .cell), ("_law_source_here", .cell)], isGenerator := false, isCoroutine := false }
/-- one map -/
theorem one_map {K : PySem.W.Frag} {H : Hp} {l : Addr} {n size : Nat} {v1 v2 v4 v5 v6 : Option V} {Q : VK} (src : Src H l n) (n1 : n + size ≤ 1000000) (s1 : 1 ≤ size) (s4 : size ≤ 4)
    (k : ∀ t xs H', But l H H' → H t = none → H' t = some (.tup (xs.map nv)) → Mon.Valid size xs → Src H' l (n + size) → Q (.ref t) H') :
    teMap K [some (.ref l), v1, v2, some (.int (size : Nat)), v4, v5, v6] H Q := by
  refine ⟨_, rfl, (size : Nat), rfl, by omega, by omega, fun D nD => ?_⟩
  have nDl := src.ne nD
  refine lc_range (lo := 0) (n := size) (fun i Hc => (∀ b o, b ≠ l → b ≠ D → H b = some o → Hc b = some o) ∧ Src Hc l (n + i) ∧ ∃ acc : List Nat, Hc D = some (.lst (acc.map nv)) ∧ acc.length = i ∧ ∀ z ∈ acc, z < size) ⟨fun b o _ nb e => by rw [upd_ne nb]; exact e, src.upd nDl, [], upd_same, rfl, fun z hz => by cases hz⟩ (fun i Hc hi ⟨bc, sc, acc, hD, la, oa⟩ => ?_) (fun Hc ⟨bc, sc, acc, hD, la, oa⟩ => ?_)
  · refine ⟨rfl, yesT ?_⟩
    refine ⟨_, rfl, _, rfl, l, n + i, (size : Nat), rfl, sc, by omega, by omega, by omega, fun x H' x0 x1 b' src' => ?_⟩
    obtain ⟨x, rfl⟩ : ∃ x' : Nat, x = (x' : Nat) := ⟨x.toNat, by omega⟩
    have hD' := b' _ _ nDl hD
    refine ⟨_, hD', by rw [List.length_map, la]; show i < 16777216; omega, fun b o nl nb e => by rw [upd_ne nb]; exact b' _ _ nl (bc _ _ nl nb e), src'.upd nDl, acc ++ [x], by rw [upd_same]; simp, by simp [la], fun z hz => ?_⟩
    rcases List.mem_append.mp hz with h | h
    · exact oa z h
    · rw [List.mem_singleton.mp h]
      omega
  · refine ⟨D, _, rfl, .inl ⟨SqL.of hD, fun t nt => ?_⟩⟩
    have ntl := sc.ne nt
    have ntD : t ≠ D := fun z => by rw [z, hD] at nt; cases nt
    refine k t acc _ (fun b o nl e => ?_) ?_ upd_same ⟨la, oa⟩ (sc.upd ntl)
    · have nb : b ≠ D := ne_of_none e nD
      have nt' : b ≠ t := ne_of_none (bc _ _ nl nb e) nt
      rw [upd_ne nt']
      exact bc _ _ nl nb e
    · cases e : H t with
      | none => rfl
      | some o => rw [bc _ _ ntl ntD e] at nt; cases nt
section
variable {P : Program} {w : World} {K : PySem.W.Frag} {mg : Str → Option Value} {base : Heap}
theorem scMaps : FnScope ["_law_source_here", "_law_most_points", "_law_most_letters", "_law_size", "_law_many", "_law_point", "_law_turn"] ["_law_source_here", "_law_most_points", "_law_most_letters"] (defScope s_L_maps) := ⟨rfl, rfl, rfl, by decide +kernel, rfl, by decide +kernel, by decide +kernel⟩
theorem ok_maps {f : Addr} {fd : FuncData} {q : Str} (F : FunD K "_law_maps" q (defArgs s_L_maps) (defBody s_L_maps) (defScope s_L_maps) [] [] f fd) (zr : mg "range" = none) (zt : mg "tuple" = none)
    (DD : Def P w K mg base CX0 1 "_law_draw" ["_law_source_here", "_law_many"] spDraw) :
    FnOk P w K mg base CX0 2 f fd ["_law_source_here", "_law_most_points", "_law_most_letters"] spMaps := by
  refine F.ok scMaps (fun vs H Q E h => ?_) (fun cdv A outer s H vs Q E hr h => ?_)
  · obtain ⟨l, n, mp, ml, rfl, _⟩ := h
    rfl
  · obtain ⟨l, n, mp, ml, rfl, src, n1, p1, p4, m1, m6, k⟩ := h
    refine ⟨_, PSs.nox (pss_cons (ps_asg (pe_tup (pa_cons (pe_op op_add pe_int (pe_def DD hr pass0 rfl (pa_cons (pv 0) (pa_cons (pv 1) pa_nil)))) (pa_cons (pe_op op_add pe_int (pe_def DD hr pass0 rfl (pa_cons (pv 0) (pa_cons (pv 2) pa_nil)))) pa_nil)))
        (pg_tup rfl (pgs_cons (pg_name (i := 3) scMaps.nd rfl (.inr rfl)) (pgs_cons (pg_name (i := 4) scMaps.nd rfl (.inl rfl)) pgs_nil))))
      (pss_one (ps_ret (pe_lc (own := [("_law_turn", 6)]) (g := gName 6) (te := teMap K) (by rfl) scMaps.nd (pi_range1 rfl zr (pa_cons (pv 4) pa_nil)) (blkOk_by (own := [("_law_turn", 6)]) (N := ["_law_source_here", "_law_most_points", "_law_most_letters", "_law_size", "_law_many", "_law_point", "_law_turn"]) (sc := defScope s_L_maps) (by decide +kernel)) (fun _ _ _ _ _ => pg_name (i := 6) scMaps.nd rfl (Or.inl rfl)) (fun _ _ _ _ _ => pts_nil)
        (fun _ _ _ _ _ => by exact pe_callTy call_tuple_of rfl zt PyProof.Rows.boot_tuple (pa_cons (pe_lc (own := [("_law_point", 5)]) (g := gName 5) (te := teDraw) (by rfl) scMaps.nd (pi_range1 rfl zr (pa_cons (pv 3) pa_nil)) (blkOk_by (own := [("_law_point", 5)]) (N := ["_law_source_here", "_law_most_points", "_law_most_letters", "_law_size", "_law_many", "_law_point", "_law_turn"]) (sc := scTurn) (by decide +kernel)) (fun _ _ _ _ _ => pg_name (i := 5) scMaps.nd rfl (Or.inl rfl)) (fun _ _ _ _ _ => pts_nil)
          (fun _ _ _ _ _ => by exact pe_def DD hr pass0 rfl (pa_cons (pv 0) (pa_cons (pv 3) pa_nil)))) pa_nil)))))), ?_⟩
    refine ⟨_, rfl, _, rfl, l, n, (mp : Nat), rfl, src, by omega, by omega, by omega, fun x H1 x0 x1 b1 src1 => ?_⟩
    refine ⟨1, x, rfl, rfl, _, rfl, _, rfl, l, n + 1, (ml : Nat), rfl, src1, by omega, by omega, by omega, fun y H2 y0 y1 b2 src2 => ?_⟩
    refine ⟨1, y, rfl, rfl, ?_⟩
    refine ⟨(by show 2 ≤ sizeLine; decide), fun T nT => ?_⟩
    refine ⟨T, _, rfl, SqT.of upd_same, rfl, _, _, rfl, _, _, rfl, rfl, ?_⟩
    obtain ⟨x, rfl⟩ : ∃ x' : Nat, x = (x' : Nat) := ⟨x.toNat, by omega⟩
    obtain ⟨y, rfl⟩ : ∃ y' : Nat, y = (y' : Nat) := ⟨y.toNat, by omega⟩
    have ex : (1 : Int) + (x : Nat) = ((1 + x : Nat) : Int) := by omega
    have ey : (1 : Int) + (y : Nat) = ((1 + y : Nat) : Int) := by omega
    have nTl := src2.ne nT
    have src3 := src2.upd (o := .tup [.int (1 + (x : Nat)), .int (1 + (y : Nat))]) nTl
    have b3 : But l H (L2.upd H2 T (.tup [.int (1 + (x : Nat)), .int (1 + (y : Nat))])) := But.trans (b1.trans b2) (But.of (same_upd nT))
    generalize L2.upd H2 T (.tup [.int (1 + (x : Nat)), .int (1 + (y : Nat))]) = H3 at src3 b3 ⊢
    refine ⟨_, rfl, ((1 + y : Nat) : Int), congrArg (fun z => [V.int z]) ey, by omega, by omega, fun D nD => ?_⟩
    have nDl := src3.ne nD
    refine lc_range (lo := 0) (n := 1 + y) (fun i Hc => (∀ b o, b ≠ l → b ≠ D → H3 b = some o → Hc b = some o) ∧ Src Hc l (n + 2 + i * 4) ∧ ∃ (as : List Addr) (gens : List (List Nat)), Hc D = some (.lst (as.map V.ref)) ∧ as.length = i ∧ gens.length = i ∧ (∀ (j : Nat) a row, as[j]? = some a → gens[j]? = some row → Hc a = some (.tup (row.map nv))) ∧ ∀ g ∈ gens, Mon.Valid (1 + x) g)
      ⟨fun b o _ nb e => by rw [upd_ne nb]; exact e, src3.upd nDl, [], [], upd_same, rfl, rfl, fun j a row h => by simp at h, fun z hz => by cases hz⟩ (fun i Hc hi ⟨bc, sc, as, gens, hD, la, lg, el, vl⟩ => ?_) (fun Hc ⟨bc, sc, as, gens, hD, la, lg, el, vl⟩ => ?_)
    · refine ⟨rfl, yesT ?_⟩
      show teMap K [some (.ref l), _, _, some (.int (1 + (x : Nat))), _, _, _] Hc _
      rw [ex]
      refine one_map sc (by omega) (by omega) (by omega) fun t xs H' b' nt ht va src' => ?_
      have hD' := b' _ _ nDl hD
      have ntD : t ≠ D := fun z => by rw [z, hD] at nt; cases nt
      refine ⟨_, hD', by rw [List.length_map, la]; show i < 16777216; omega, fun b o nl nb e => by rw [upd_ne nb]; exact b' _ _ nl (bc _ _ nl nb e), (src'.upd nDl).up (by omega), as ++ [t], gens ++ [xs], by rw [upd_same]; simp, by simp [la], by simp [lg], fun j a row h1 h2 => ?_, fun g hg => ?_⟩
      · by_cases hj : j < i
        · rw [List.getElem?_append_left (by omega)] at h1 h2
          have e0 := el j a row h1 h2
          have nal : a ≠ l := fun z => by
            obtain ⟨u, v, w', e, _⟩ := sc
            rw [z, e] at e0
            cases e0
          have naD : a ≠ D := fun z => by
            rw [z, hD] at e0
            cases e0
          rw [upd_ne naD]
          exact b' _ _ nal e0
        · have ej : j = i := by
            have := get_lt h1
            simp at this
            omega
          subst ej
          rw [List.getElem?_append_right (by omega), la, Nat.sub_self] at h1
          rw [List.getElem?_append_right (by omega), lg, Nat.sub_self] at h2
          cases h1
          cases h2
          rw [upd_ne ntD]
          exact ht
      · rcases List.mem_append.mp hg with h | h
        · exact vl g h
        · rw [List.mem_singleton.mp h]
          exact va
    · have hDn : H D = none := by
        cases e : H D with
        | none => rfl
        | some o => rw [b3 _ _ nDl e] at nD; cases nD
      refine k D gens (1 + x) Hc (fun b o nl e => bc _ _ nl (ne_of_none e hDn) (b3 _ _ nl e)) hDn ⟨as, hD, by omega, el⟩ (fun z => ?_) (by omega) (by omega) (by omega) vl (sc.up (by omega))
      rw [z] at lg
      simp at lg
      omega
end
end K18

set_option Elab.async false
set_option linter.all false
set_option maxRecDepth 100000
set_option maxHeartbeats 4000000
/-! {key: value} with a tuple key. -/
namespace Lf
open PySem PySem.Spec PyProof.Rows L2
/-- {k: v} -/
def tDispT1 (tk tv : TE) : TE := fun σ H Q => ∀ p, H p = none → tk σ (upd H p (.dT [])) fun x H1 => tv σ H1 fun y H2 => ∃ ks b H3, H2 p = some (.dT []) ∧ x = .ref b ∧ H2 b = some (.tup (ks.map kV)) ∧ H3 = upd H2 p (.dT [(ks, y)]) ∧ Q (.ref p) H3
theorem pe_dispT1 {X : Cx} {pos : Pos} {k v : Expr} {tk tv : TE} (hu : X.A.units + 1 < cLine) (hk : PE X k tk) (hv : PE X v tv) : PE X (.Dict [some k] [v] pos) (tDispT1 tk tv) := by
  refine ⟨fun pins s σ H Q I q => ?_⟩
  have hn := I.hok.fresh (Nat.le_refl s.heap.objs.size)
  have I1 := I.laid (a := s.heap.objs.size) (o := .dT []) (h' := s.heap.push { cls := .type "dict", data := .dict #[] }) (t' := s.toks) (fun _ _ q => Heap.get?_push_of_some _ q) (Nat.le_refl _) (dt_empty s.heap I.big)
  rw [arm_eval_Dict, zip_pairTrees [some k] [v] X.env pos rfl rfl, dictDisplay_pairs (pairTrees [some k] [v] X.env pos) (fun z => by cases z) (show 1 < 17 by decide)]
  refine wpAny_bind (wpAny_standAt (wpAny_bind ?_))
  unfold subDict
  refine wpAny_bind (wpAny_alloc ?_)
  refine wpAny_bind (wpAny_holding ?_)
  rw [if_pos (show (pairTrees [some k] [v] X.env pos).length ≤ 15 from (by show 1 ≤ 15; decide))]
  refine wpAny_bind (pairTrees_cons_walk (thn (hk.run pins _ σ _ _ I1 (q _ hn)) fun u s1 ⟨x, H1, I1, rx, q1⟩ => thn (hv.run pins s1 σ H1 _ I1 q1) fun r s2 ⟨y, H2, I2, ry, q2⟩ => pairTrees_nil_walk ?_))
  obtain ⟨ks, b, H3, e, ex, eb, e3, q3⟩ := q2
  subst ex e3
  cases (show u = Value.ref b from rx)
  obtain ⟨z, hd, xs, rel, dd⟩ := dt_of I2.hok e
  cases rel
  refine wpAny_holding ?_
  rw [List.forIn_cons]
  refine wpAny_bind (wpAny_bind (wpAny_bind (wpAny_dictSet_heap (hsz := by decide) (show (tupleKind (mixKind X.prog X.w)).room X.A from Nat.lt_of_succ_lt hu) (key_of I2.hok eb) dd fun h' dd' hs => wpAny_pure ?_)))
  dsimp only
  refine wpAny_pure (wpAny_pure (wpAny_pure (wpAny_pure ⟨.ref s.heap.objs.size, _, ?_, rfl, q3⟩)))
  obtain ⟨q, es, ep, hq, h2, h3, h4, _, h5⟩ := dd'
  refine d_write I2 (by rw [e]; exact True.intro) hs ⟨q, hq⟩ ⟨by show 1 ≤ sizeLine; decide, hd, _, ((show KT H2 [] [] from .nil).put ks eb ry).keeps fun c ys ec => ?_, q, es, ep, hq, h2, h3, h4, h5⟩
  rw [upd_ne (ne_of ec e (fun z => nomatch z))]
  exact ec
end Lf

set_option Elab.async false
set_option linter.all false
set_option maxRecDepth 100000
set_option maxHeartbeats 4000000
/-! zip(text, list), walked. -/
namespace Lf
open PySem PySem.Spec PyProof.Rows L2
/-- the cells of such a zip lie apart -/
structure Far (z TI TO i1 i2 b : Addr) : Prop where
  a1 : TI ≠ z
  a2 : TO ≠ z
  a3 : TI ≠ TO
  a4 : TI ≠ i1
  a5 : TI ≠ i2
  a6 : z ≠ i1
  a7 : z ≠ i2
  a8 : TO ≠ i1
  a9 : TO ≠ i2
  b1 : i1 ≠ i2
  c1 : z ≠ b
  c2 : TO ≠ b
  c3 : i1 ≠ b
  c4 : i2 ≠ b
theorem Far.sep {z TI TO i1 i2 b : Addr} (f : Far z TI TO i1 i2 b) : ZipSep2 z TI TO i1 i2 [i1] [i2, b] where
  TIz := f.a1
  TOz := f.a2
  TITO := f.a3
  TIi1 := f.a4
  mem1 := List.mem_cons_self
  zf1 := fun h => f.a6 (List.mem_singleton.mp h)
  Tf1 := fun h => f.a8 (List.mem_singleton.mp h)
  TIi2 := f.a5
  mem2 := List.mem_cons_self
  zf2 := fun h => by
    simp only [List.mem_cons, List.not_mem_nil, or_false] at h
    exact h.elim f.a7 f.c1
  Tf2 := fun h => by
    simp only [List.mem_cons, List.not_mem_nil, or_false] at h
    exact h.elim f.a9 f.c2
  sep1_2 := fun h => by
    simp only [List.mem_cons, List.not_mem_nil, or_false] at h
    exact h.elim f.b1 f.c3
  sep2_1 := fun h => f.b1 (List.mem_singleton.mp h).symm
/-- signs of a text and items of a list, in new pairs -/
def Itzs (K : PySem.W.Frag) (x : Str) (b : Addr) : It :=
  ⟨fun i H => ∃ (ys : List V) (c : Nat) (y : V), SqL K H b ys ∧ x.cps[i]? = some c ∧ ys[i]? = some y,
    fun i H v H' => ∃ (T : Addr) (c : Nat) (y : V), v = .ref T ∧ H T = none ∧ H' = L2.upd H T (.tup [.str ⟨#[c]⟩, y]) ∧ x.cps[i]? = some c ∧ ∀ ys, SqL K H b ys → ys[i]? = some y,
    fun i H => ∃ ys : List V, SqL K H b ys ∧ i ≤ x.cps.size ∧ i ≤ ys.length ∧ (i = x.cps.size ∨ i = ys.length)⟩
theorem turn_zips {P : Program} {w : World} {K : PySem.W.Frag} {elts : List Expr} {kk : Nat} {tpos : Pos} {z TI TO i1 i2 b : Addr} (x : Str) (t : Tok) (f : Far z TI TO i1 i2 b) :
    Turn P w K (.Tuple elts kk tpos) (Itzs K x b) [z, TI, TO, i1, i2] z (fun i h => IsZip h z TI TO .none ∧ IsTupOf2 h TI (.ref i1) (.ref i2) ∧ (∃ p q, IsTupOf2 h TO p q) ∧ h.IsStrIter i1 (strIterType x) x t i ∧ h.IsListIter i2 b i) where
  mem := List.mem_cons_self
  obj := fun i h st c hc => by
    obtain ⟨hz, hTI, ⟨p, q, hTO⟩, ⟨o1, e1, _, d1⟩, ⟨o2, e2, _, d2⟩⟩ := st
    simp only [List.mem_cons, List.not_mem_nil, or_false] at hc
    rcases hc with rfl | rfl | rfl | rfl | rfl
    · exact ⟨_, hz, fun v q => nomatch q⟩
    · exact ⟨_, hTI, fun v q => nomatch q⟩
    · exact ⟨_, hTO, fun v q => nomatch q⟩
    · exact ⟨o1, e1, fun v q => by rw [d1] at q; cases q⟩
    · exact ⟨o2, e2, fun v q => by rw [d2] at q; cases q⟩
  keep := fun i h h' st k => by
    obtain ⟨hz, hTI, ⟨p, q, hTO⟩, h1, h2⟩ := st
    obtain ⟨o1, e1, g1⟩ := h1
    exact ⟨k z (by simp) _ hz, k TI (by simp) _ hTI, ⟨p, q, k TO (by simp) _ hTO⟩, ⟨o1, k i1 (by simp) _ e1, g1⟩, h2.at fun o e => k i2 (by simp) o e⟩
  item := by
    intro X hP hw hK hc i pins s σ H E I hf st hg
    subst hP hw hK
    obtain ⟨hz, hTI, ⟨p0, q0, hTO⟩, h1, h2⟩ := st
    obtain ⟨ys, c, y, hq, hx, hy⟩ := hg
    obtain ⟨its, rv, p, _⟩ := I.list hq
    obtain ⟨u, hu, ru⟩ := rv.get hy
    have calm : X.A.in1.handled = none := by have := I.ok.hd hc; simp [this]
    have zl : z < s.heap.objs.size := Heap.lt_size hz
    have lt1 : i < x.cps.size := (Array.getElem?_eq_some_iff.mp hx).1
    have lt2 : i < its.toArray.size := by rw [List.size_toArray, ← rv.length]; exact (List.getElem?_eq_some_iff.mp hy).1
    refine wpAny_pyNext_zipD2_item f.sep (Draws.text (prog := X.prog) (w := X.w) calm i1 x t) (Draws.list (prog := X.prog) (w := X.w) calm i2 b (Ne.symm f.c4) its.toArray) hz hTI hTO h1 ⟨h2, p.isList⟩ lt1 lt2
      fun x1 x2 h' tk y1 y2 hz' hTO' d1 d2 hT hsz hk => ?_
    obtain ⟨c', t', hc', rfl⟩ := y1
    rw [hx] at hc'
    cases hc'
    have eu : u = x2 := by
      have q : its[i]? = some x2 := by simpa using y2
      rw [hu] at q
      exact Option.some.inj q
    subst eu
    refine ⟨_, rfl, wpAny_letOwnedTupleGo_zip (s := { s with heap := h', toks := tk }) hz' fun h'' z'' sb => ?_⟩
    have hT2 : h''.get? s.heap.objs.size = some { cls := .type "tuple", data := .seq #[.str ⟨#[c]⟩ t', u] } := (sb.2 _ (Nat.ne_of_gt zl)).trans hT
    have new : ObjOk X.prog X.w (L2.upd H s.heap.objs.size (.tup [.str ⟨#[c]⟩, y])) h'' s.heap.objs.size (.tup [.str ⟨#[c]⟩, y]) :=
      ⟨by show 2 ≤ sizeLine; decide, [.str ⟨#[c]⟩ t', u], .cons ⟨_, rfl⟩ (.cons ru .nil), ⟨_, hT2, rfl, _, rfl⟩⟩
    have I1 : Inv X pins σ (L2.upd H s.heap.objs.size (.tup [.str ⟨#[c]⟩, y])) { s with heap := h'', toks := tk } :=
      I.turnedNew (ch := [z, TI, TO, i1, i2]) (fun d o hb q => (sb.2 d (fun e => hb (by simp [e]))).trans (hk d o (fun e => hb (by simp [e])) (fun e => hb (by simp [e])) (fun e => hb (by simp [e])) (fun e => hb (by simp [e])) q)) hf (Nat.le_refl _) new
    obtain ⟨o1, e1, g1⟩ := d1
    refine ⟨.ref s.heap.objs.size, _, I1, rfl, ⟨_, c, y, rfl, I.hok.fresh (Nat.le_refl _), rfl, hx, fun l hl => by rw [I.list_inj hl hq]; exact hy⟩, ⟨z'', ?_, ⟨_, _, (sb.2 _ f.a2).trans hTO'⟩, ⟨o1, (sb.2 _ (Ne.symm f.a6)).trans e1, g1⟩, d2.1.at fun o q => (sb.2 _ (Ne.symm f.a7)).trans q⟩, fun d hd => ?_⟩
    · exact (sb.2 _ f.a1).trans (hk _ _ f.a1 f.a3 f.a4 f.a5 hTI)
    · have lt : d < s.heap.objs.size := by
        simp only [List.mem_cons, List.not_mem_nil, or_false] at hd
        rcases hd with rfl | rfl | rfl | rfl | rfl
        · exact zl
        · exact Heap.lt_size hTI
        · exact Heap.lt_size hTO
        · obtain ⟨_, e, _⟩ := h1; exact Heap.lt_size e
        · obtain ⟨_, e, _⟩ := h2; exact Heap.lt_size e
      rw [upd_ne (Nat.ne_of_lt lt)]
      exact (hf d hd).1
  done := by
    intro X hP hw hK hc i pins s σ H E I hf st hg
    subst hP hw hK
    obtain ⟨hz, hTI, ⟨p0, q0, hTO⟩, h1, h2⟩ := st
    obtain ⟨ys, hq, le1, le2, hend⟩ := hg
    obtain ⟨its, rv, p, _⟩ := I.list hq
    have l2 := rv.length
    have calm : X.A.in1.handled = none := by have := I.ok.hd hc; simp [this]
    refine wpAny_pyNext_zipD2_end f.sep (Draws.text (prog := X.prog) (w := X.w) calm i1 x t) (Draws.list (prog := X.prog) (w := X.w) calm i2 b (Ne.symm f.c4) its.toArray) hz hTI hTO h1 ⟨h2, p.isList⟩ le1 (by simp; omega) (by simp; omega)
      fun h' tk hk => ⟨rfl, I.turnedL (t' := tk) (ch := [z, TI, TO, i1, i2]) (fun d o hb q => hk d o (fun e => hb (by simp [e])) (fun e => hb (by simp [e])) (fun e => hb (by simp [e])) (fun e => hb (by simp [e])) q) hf⟩
  self := fun A i s Q E st h => wpAny_pyIter_zip st.1 h
def iZips (K : PySem.W.Frag) (ta : TA) : TI := fun σ H R => ta σ H fun vs H1 => ∃ x b ys, vs = [.str x, .ref b] ∧ SqL K H1 b ys ∧ R (Itzs K x b) H1
theorem pi_zips {X : Cx} {e e2 : Expr} {ta : TA} {p pos tpos : Pos} {elts : List Expr} {kk : Nat} (hg : Gl X "zip") (hm : X.mg "zip" = none) (ha : PA X [e, e2] ta)
    (hs : starEach [e, e2] X.env = (false, eval e X.env) :: starEach [e2] X.env := by rfl) (hpl : (backTo pos (starEach [e2] X.env)).any (·.1) = false := by rfl) :
    PI X (.Tuple elts kk tpos) (.Call (.Name "zip" p) [e, e2] [] pos) (iZips X.K ta) := by
  refine ⟨fun pins s σ H R I h => ?_⟩
  refine Call_ (ld_blt I hg hm PyProof.Rows.boot_zip (PyProof.Rows.callWith_type1 (thn (ha.run pos pins s σ H _ I h) fun us s1 hh => ?_) hs hpl))
  obtain ⟨vs, H1, I1, r1, x, b, ys, rfl, hq, q⟩ := hh
  cases r1 with
  | cons r rr =>
    cases rr with
    | cons r2 rr =>
      cases rr
      obtain ⟨t, rfl⟩ := r
      cases r2
      obtain ⟨its, rv, pl, _⟩ := I1.list hq
      have lb : b < s1.heap.objs.size := pl.lt
      refine zip_begins2 (begins_text x t) (begins_list b its.toArray) trivial pl.isList fun h' hz hTI hTO g1 g2 hsz hk => wpAny_pyIter_zip hz ?_
      have I2 : Inv X pins σ H1 { s1 with heap := h' } := I1.kept (t' := s1.toks) hk
      have far : Far (s1.heap.objs.size + 4) (s1.heap.objs.size + 2) (s1.heap.objs.size + 3) s1.heap.objs.size (s1.heap.objs.size + 1) b := by
        have ne : ∀ k : Nat, s1.heap.objs.size + k ≠ b := fun k => Nat.ne_of_gt (Nat.lt_of_lt_of_le lb (Nat.le_add_right _ _))
        refine ⟨?_, ?_, ?_, ?_, ?_, ?_, ?_, ?_, ?_, ?_, ne 4, ne 3, ne 0, ne 1⟩ <;> (intro h; have h' : (_ : Nat) = _ := h; omega)
      refine ⟨s1.heap.objs.size + 4, [s1.heap.objs.size + 4, s1.heap.objs.size + 2, s1.heap.objs.size + 3, s1.heap.objs.size, s1.heap.objs.size + 1], _, _, H1, rfl, I2, turn_zips x t far, ⟨hz, hTI, ⟨_, _, hTO⟩, ⟨_, g1, rfl, rfl⟩, ⟨_, g2, rfl, rfl⟩⟩, fun c hc => ?_, q⟩
      have hle : s1.heap.objs.size ≤ c := by
        simp only [List.mem_cons, List.not_mem_nil, or_false] at hc
        rcases hc with z | z | z | z | z <;> rw [z]
        · exact Nat.le_add_right _ _
        · exact Nat.le_add_right _ _
        · exact Nat.le_add_right _ _
        · exact Nat.le_refl _
        · exact Nat.le_add_right _ _
      exact I1.fpOk hle (I1.hok.fresh hle)
theorem walk_zips {K : PySem.W.Frag} {x : Str} {b : Addr} {ys : List V} (le : ys.length ≤ x.cps.size) : Walk (Itzs K x b) ys.length (fun H => SqL K H b ys)
    (fun i H v H' => ∃ (T : Addr) (c : Nat) (y : V), v = .ref T ∧ H T = none ∧ H' = L2.upd H T (.tup [.str ⟨#[c]⟩, y]) ∧ x.cps[i]? = some c ∧ ys[i]? = some y) where
  goes := fun i H hi g => ⟨ys, x.cps[i]'(by omega), ys[i], g, Array.getElem?_eq_getElem (by omega), List.getElem?_eq_getElem hi⟩
  stops := fun H g => ⟨ys, g, le, Nat.le_refl _, .inr rfl⟩
  yields := fun i H v H' hi g y => by
    obtain ⟨T, c, u, e1, e2, e3, e4, e5⟩ := y
    exact ⟨T, c, u, e1, e2, e3, e4, e5 ys g⟩
end Lf

set_option Elab.async false
set_option linter.all false
set_option maxRecDepth 100000
set_option maxHeartbeats 8000000
namespace K18
open PySem PySem.Spec PyProof.Rows L2 Lf
/-- a word as a text -/
def ws (x : List Nat) : Str := ⟨(x.map fun c => 97 + c).toArray⟩
abbrev wv (x : List Nat) : V := .str (ws x)
theorem ws_app {x : List Nat} {c : Nat} : (ws x ++ (⟨#[97 + c]⟩ : Str)) = ws (x ++ [c]) := by
  show Str.mk ((x.map fun c => 97 + c).toArray ++ #[97 + c]) = ws (x ++ [c])
  unfold ws
  simp
theorem ws_len {x : List Nat} : (ws x).length = x.length := by
  show ((x.map fun c => 97 + c).toArray).size = x.length
  simp
theorem word_shortF : ∀ (m : List (Nat × Nat)) (L : List (List Nat)) (n : Nat), (∀ w ∈ L, w.length ≤ n) → ∀ w ∈ m.foldl Mon.wordStep L, w.length ≤ n + m.length
  | [], L, n, h, w, hw => h w hw
  | p :: r, L, n, h, w, hw => by
    rw [List.length_cons, show n + (r.length + 1) = n + 1 + r.length by omega]
    refine word_shortF r (Mon.wordStep L p) (n + 1) (fun u hu => ?_) w hw
    unfold Mon.wordStep at hu
    rcases List.mem_append.mp hu with g | g
    · have := h u g
      omega
    · rw [List.mem_singleton.mp g, List.length_append, List.length_singleton]
      cases e : L[p.1]? with
      | none => rw [List.getD, e]; show 0 + 1 ≤ _; omega
      | some v =>
        rw [List.getD, e]
        have := h v (List.mem_of_getElem? e)
        show v.length + 1 ≤ _
        omega
theorem word_short {m : List (Nat × Nat)} {w : List Nat} (h : w ∈ Mon.wordTab m) : w.length ≤ m.length := by
  have := word_shortF m [[]] 0 (fun u hu => by rw [List.mem_singleton.mp hu]; exact Nat.le_refl _) w h
  omega
/-- what the search has found, as it lies -/
structure Lay (H : Hp) (pf pw pt pn : Addr) (as bs : List Addr) (found words rows : List (List Nat)) : Prop where
  f : H pf = some (.lst (as.map V.ref))
  fl : as.length = found.length
  fe : ∀ (j : Nat) a x, as[j]? = some a → found[j]? = some x → H a = some (.tup (x.map nv))
  w : H pw = some (.lst (words.map wv))
  t : H pt = some (.lst (bs.map V.ref))
  tl : bs.length = rows.length
  te : ∀ (j : Nat) b r, bs[j]? = some b → rows[j]? = some r → H b = some (.lst (r.map nv))
  tn : ∀ b ∈ bs, b ≠ pf ∧ b ≠ pw ∧ b ≠ pt
  d : H pn = some (.dT (dtab found))
  n1 : pf ≠ pw
  n2 : pf ≠ pt
  n3 : pw ≠ pt
section
variable {H : Hp} {pf pw pt pn : Addr} {as bs : List Addr} {found words rows : List (List Nat)}
theorem Lay.same {H' : Hp} (L : Lay H pf pw pt pn as bs found words rows) (s : Same H H') : Lay H' pf pw pt pn as bs found words rows :=
  ⟨s _ _ L.f, L.fl, fun j a x h1 h2 => s _ _ (L.fe j a x h1 h2), s _ _ L.w, s _ _ L.t, L.tl, fun j b r h1 h2 => s _ _ (L.te j b r h1 h2), L.tn, s _ _ L.d, L.n1, L.n2, L.n3⟩
theorem Lay.gn (L : Lay H pf pw pt pn as bs found words rows) : pn ≠ pf ∧ pn ≠ pw ∧ pn ≠ pt := by
  refine ⟨fun z => ?_, fun z => ?_, fun z => ?_⟩
  · have := L.d; rw [z, L.f] at this; cases this
  · have := L.d; rw [z, L.w] at this; cases this
  · have := L.d; rw [z, L.t] at this; cases this
theorem Lay.bn (L : Lay H pf pw pt pn as bs found words rows) {b : Addr} (hb : b ∈ bs) : b ≠ pn := fun z => by
  obtain ⟨j, hj⟩ := List.getElem?_of_mem hb
  obtain ⟨r, hr⟩ := lt_get (show j < rows.length by rw [← L.tl]; exact get_lt hj)
  have := L.te j b r hj hr
  rw [z, L.d] at this
  cases this
/-- a list that is not of it changes -/
theorem Lay.off (L : Lay H pf pw pt pn as bs found words rows) {p : Addr} {l l' : List V} (hp : H p = some (.lst l)) (np : p ≠ pf ∧ p ≠ pw ∧ p ≠ pt) (nb : p ∉ bs) : Lay (upd H p (.lst l')) pf pw pt pn as bs found words rows where
  f := by rw [upd_ne np.1.symm]; exact L.f
  fl := L.fl
  fe := fun j a x h1 h2 => by
    have e := L.fe j a x h1 h2
    rw [upd_ne (fun z => by rw [z, hp] at e; cases e)]
    exact e
  w := by rw [upd_ne np.2.1.symm]; exact L.w
  t := by rw [upd_ne np.2.2.symm]; exact L.t
  tl := L.tl
  te := fun j b r h1 h2 => by
    rw [upd_ne (fun z => nb (by rw [← z]; exact List.mem_of_getElem? h1))]
    exact L.te j b r h1 h2
  tn := L.tn
  d := by
    have e := L.d
    rw [upd_ne (fun z => by rw [z, hp] at e; cases e)]
    exact e
  n1 := L.n1
  n2 := L.n2
  n3 := L.n3
/-- a row more -/
theorem Lay.row (L : Lay H pf pw pt pn as bs found words rows) {p : Addr} {r : List Nat} (hp : H p = some (.lst (r.map nv))) (np : p ≠ pf ∧ p ≠ pw ∧ p ≠ pt) : Lay (upd H pt (.lst ((bs ++ [p]).map V.ref))) pf pw pt pn as (bs ++ [p]) found words (rows ++ [r]) where
  f := by rw [upd_ne L.n2]; exact L.f
  fl := L.fl
  fe := fun j a x h1 h2 => by
    have e := L.fe j a x h1 h2
    rw [upd_ne (fun z => by rw [z, L.t] at e; cases e)]
    exact e
  w := by rw [upd_ne L.n3]; exact L.w
  t := upd_same
  tl := by rw [List.length_append, List.length_append, L.tl]; rfl
  te := fun j b r' h1 h2 => by
    rcases Mon.snoc_cases h1 with h1 | ⟨rfl, rfl⟩
    · rcases Mon.snoc_cases h2 with h2 | ⟨rfl, rfl⟩
      · rw [upd_ne (L.tn b (List.mem_of_getElem? h1)).2.2]
        exact L.te j b r' h1 h2
      · have := get_lt h1
        rw [L.tl] at this
        omega
    · rcases Mon.snoc_cases h2 with h2 | ⟨_, rfl⟩
      · have := get_lt h2
        rw [L.tl] at this
        omega
      · rw [upd_ne np.2.2]
        exact hp
  tn := fun b hb => by
    rcases List.mem_append.mp hb with h | h
    · exact L.tn b h
    · rw [List.mem_singleton.mp h]
      exact np
  d := by rw [upd_ne L.gn.2.2]; exact L.d
  n1 := L.n1
  n2 := L.n2
  n3 := L.n3
/-- an element more -/
theorem Lay.add (L : Lay H pf pw pt pn as bs found words rows) {b : Addr} {x wd : List Nat} (hb : H b = some (.tup (x.map nv))) : Lay (upd (upd (upd H pn (.dT (dtab (found ++ [x])))) pf (.lst ((as ++ [b]).map V.ref))) pw (.lst ((words ++ [wd]).map wv))) pf pw pt pn (as ++ [b]) bs (found ++ [x]) (words ++ [wd]) rows where
  f := by rw [upd_ne L.n1, upd_same]
  fl := by rw [List.length_append, List.length_append, L.fl]; rfl
  fe := fun j a y h1 h2 => by
    have e : H a = some (.tup (y.map nv)) := by
      rcases Mon.snoc_cases h1 with h1 | ⟨rfl, rfl⟩
      · rcases Mon.snoc_cases h2 with h2 | ⟨rfl, rfl⟩
        · exact L.fe j a y h1 h2
        · have := get_lt h1
          rw [L.fl] at this
          omega
      · rcases Mon.snoc_cases h2 with h2 | ⟨_, rfl⟩
        · have := get_lt h2
          rw [L.fl] at this
          omega
        · exact hb
    rw [upd_ne (fun z => by rw [z, L.w] at e; cases e), upd_ne (fun z => by rw [z, L.f] at e; cases e), upd_ne (fun z => by rw [z, L.d] at e; cases e)]
    exact e
  w := upd_same
  t := by rw [upd_ne L.n3.symm, upd_ne L.n2.symm, upd_ne L.gn.2.2.symm]; exact L.t
  tl := L.tl
  te := fun j c r h1 h2 => by
    have m := List.mem_of_getElem? h1
    obtain ⟨a1, a2, a3⟩ := L.tn c m
    rw [upd_ne a2, upd_ne a1, upd_ne (L.bn m)]
    exact L.te j c r h1 h2
  tn := L.tn
  d := by rw [upd_ne L.gn.2.1, upd_ne L.gn.1, upd_same]
  n1 := L.n1
  n2 := L.n2
  n3 := L.n3
end
end K18

set_option Elab.async false
set_option linter.all false
set_option maxRecDepth 100000
set_option maxHeartbeats 8000000
namespace K18
open PySem PySem.Spec PyProof.Rows L2 Lf
def spWords (K : PySem.W.Frag) : Sp := fun vs H Q _ => ∃ p rows m wd, vs = [.ref p] ∧ Mo K H p rows m ∧ Form rows wd ∧ Mon.madeTab 0 rows [] = some m ∧ m.length ≤ 2000 ∧ ∀ l H', Same H H' → H l = none → H' l = some (.lst ((Mon.wordTab m).map wv)) → Q (.ref l) H'
theorem letter_of {c : Nat} (h : c < 6) : atI ("abcdef" : Str).cps.toList ((c : Nat) : Int) = some (97 + c) := by
  have : c = 0 ∨ c = 1 ∨ c = 2 ∨ c = 3 ∨ c = 4 ∨ c = 5 := by omega
  rcases this with rfl | rfl | rfl | rfl | rfl | rfl <;> decide +kernel
section
variable {P : Program} {w : World} {K : PySem.W.Frag} {mg : Str → Option Value} {base : Heap}
theorem scWords : FnScope ["self", "found", "before", "letter"] ["self"] (defScope s_Monoid_words) := ⟨rfl, rfl, rfl, by decide +kernel, rfl, by decide +kernel, by decide +kernel⟩
theorem ok_words {f : Addr} {fd : FuncData} {q : Str} (F : FunD K "words" q (defArgs s_Monoid_words) (defBody s_Monoid_words) (defScope s_Monoid_words) [] [] f fd) (T : Txt P w K mg base) :
    FnOk P w K mg base CX0 1 f fd ["self"] (spWords K) := by
  have cl : L2.Cls K (He.ga K "Monoid") := He.cls_ok (T.d.fact 41 (f := .cls "Monoid") rfl)
  have n2 : NoAttr K (He.ga K "Monoid") "_made" := He.noat_ok (T.d.fact 52 (f := .noat "Monoid" "_made") rfl)
  obtain ⟨tL, gL⟩ := T.st 26 "LETTERS" "abcdef" rfl
  refine F.ok scWords (fun vs H Q E h => ?_) (fun cdv A outer s H vs Q E hr h => ?_)
  · obtain ⟨p, rows, m, wd, rfl, _⟩ := h
    rfl
  · obtain ⟨p, rows, m, wd, rfl, M, FO, hm, m2, k⟩ := h
    refine ⟨_, PSs.nox (pss_cons (ps_set (i := 1) scWords.nd rfl (.inl rfl) (pe_lst (pa_cons pe_str pa_nil)))
      (pss_cons (ps_for PassesOwn.never rfl (pi_tup (pe_slice sl_tup (pe_fld (pv 0) rfl) (po_some pe_int) po_none)) (pg_tup rfl (pgs_cons (pg_name (i := 2) scWords.nd rfl (.inl rfl)) (pgs_cons (pg_name (i := 3) scWords.nd rfl (.inl rfl)) pgs_nil)))
        (pss_one (ps_expr (pe_bm PySem.F.plainAttrs_list PySem.F.slot_list_append PySem.F.type_list_append mt_append (pv 1) (pa_cons (pe_op op_add_str (pe_ix ix_list (pv 1) (pv 2) (fun _ _ => rfl)) (pe_ix ix_str (pe_gstr rfl gL) (pv 3) (fun _ _ => rfl))) pa_nil)))))
      (pss_one (ps_ret (pv 1))))), ?_⟩
    obtain ⟨dx, tr, u, v, hp, R, MM, _⟩ := id M.ex
    obtain ⟨ps, sm, lp, sp⟩ := MM.ex
    obtain ⟨f1, f2, f3, f4, f5⟩ := FO
    have hlt : ∀ (k : Nat) p, m[k]? = some p → p.1 < k + 1 ∧ p.2 < 6 := fun k p h => by
      obtain ⟨a, row, b, c⟩ := Mon.madeTab_lt hm h
      have := (f5 row (List.mem_of_getElem? b)).1
      have := get_lt c
      exact ⟨a, by omega⟩
    refine ⟨(by show 1 ≤ sizeLine; decide), fun B nB => ?_⟩
    have nB0 := nB
    have s1 := same_upd (o := .lst [V.str ("" : Str)]) nB
    have hB1 : L2.upd H B (.lst [V.str ("" : Str)]) B = some (.lst ((Mon.wordTab []).map wv)) := upd_same
    generalize L2.upd H B (.lst [V.str ("" : Str)]) = H1 at s1 hB1 ⊢
    refine ⟨_, rfl, p, _, dx, _, _, rfl, s1 _ _ hp, cl, n2, rfl, 1, rfl, u, _, rfl, Lf.SqT.same s1 sm, ?_, fun S nS => ⟨S, rfl, ⟨_, SqT.of upd_same⟩, ?_⟩⟩
    · rw [List.length_cons, sIx1]
      rintro ⟨z, _⟩
      exact absurd z (by decide)
    rw [cut1]
    have u2 := same_upd (o := .tup (ps.map V.ref)) nS
    have hS : L2.upd H1 S (.tup (ps.map V.ref)) S = some (.tup (ps.map V.ref)) := upd_same
    have s2 := s1.trans u2
    have hB2 := u2 _ _ hB1
    have nSB : S ≠ B := fun z => by rw [z, hB1] at nS; cases nS
    generalize L2.upd H1 S (.tup (ps.map V.ref)) = H2 at s2 hS hB2 ⊢
    clear u2 s1 hB1 nS
    refine for_tup (K := K) (a := S) (xs := ps.map V.ref) (fun i σ Hn => ∃ v2 v3 : Option V, σ = [some (.ref p), some (.ref B), v2, v3] ∧ Same H Hn ∧ Hn S = some (.tup (ps.map V.ref)) ∧ Hn B = some (.lst ((Mon.wordTab (m.take i)).map wv)))
      ⟨none, none, rfl, s2, hS, hB2⟩ (fun i σ Hn _ ⟨_, _, _, _, h, _⟩ => SqT.of h) (fun i x σ Hn hx ⟨v2, v3, eσ, sn, hSn, hBn⟩ => ?_) (fun σ Hn ⟨v2, v3, eσ, sn, hSn, hBn⟩ => ?_)
    · subst eσ
      obtain ⟨pa, hpa, rfl⟩ := map_get hx
      obtain ⟨pr, hpr⟩ := lt_get (show i < m.length by have := get_lt hpa; omega)
      have il := get_lt hpr
      have lk : (m.take i).length = i := by rw [List.length_take]; omega
      obtain ⟨b1, b2⟩ := hlt i pr hpr
      have lL : (Mon.wordTab (m.take i)).length = i + 1 := by rw [Mon.word_len, lk]
      obtain ⟨wp, hwp⟩ := lt_get (show pr.1 < (Mon.wordTab (m.take i)).length by omega)
      have lwp := word_short (List.mem_of_getElem? hwp)
      have eL : Mon.wordTab (m.take (i + 1)) = Mon.wordTab (m.take i) ++ [wp ++ [pr.2]] := by
        rw [take_snoc hpr, Mon.word_snoc, Mon.wordStep, Mon.getD_of hwp]
      rw [eL]
      generalize Mon.wordTab (m.take i) = L0 at hBn lL hwp lwp ⊢
      refine ⟨pa, _, rfl, Lf.SqT.same sn (sp i pa pr hpa hpr), rfl, _, _, rfl, _, _, rfl, rfl, ?_⟩
      refine ⟨_, rfl, .inl ⟨rfl, _, SqL.of hBn⟩, _, rfl, _, rfl, B, _, _, wv wp, rfl, rfl, SqL.of hBn, atI_nat (get_map hwp), _, rfl, ("abcdef" : Str), _, 97 + pr.2, rfl, rfl, by decide, letter_of b2, ws wp, ⟨#[97 + pr.2]⟩, rfl, rfl, (by rw [ws_len]; show wp.length + 1 ≤ 16777216; omega), B, _, _, rfl, rfl, hBn, by rw [List.length_map, lL]; show i + 1 < 16777216; omega, _, _, rfl, fun b o e => ?_, ?_, ?_⟩
      · rw [upd_ne (ne_of_none e nB0)]
        exact sn b o e
      · rw [upd_ne nSB]
        exact hSn
      · rw [upd_same, List.map_append, ws_app]
        rfl
    · subst eσ
      rw [List.length_map, lp, List.take_length] at hBn
      exact ⟨_, rfl, k B Hn sn nB0 hBn⟩
end
end K18

set_option Elab.async false
set_option linter.all false
set_option maxRecDepth 100000
set_option maxHeartbeats 2000000
/-! Powers of a map, products of elements by their words: pure. -/
namespace Mon
theorem lt_get' {α : Type} {l : List α} {i : Nat} (h : i < l.length) : ∃ a, l[i]? = some a := ⟨_, List.getElem?_eq_getElem h⟩
theorem get_lt' {α : Type} {l : List α} {i : Nat} {a : α} (h : l[i]? = some a) : i < l.length := (List.getElem?_eq_some_iff.mp h).1
def pw (n : Nat) (f : List Nat) : Nat → List Nat
  | 0 => idm n
  | k + 1 => comp (pw n f k) f
theorem pw_valid {n : Nat} {f : List Nat} (hf : Valid n f) : ∀ k, Valid n (pw n f k)
  | 0 => idm_valid
  | k + 1 => comp_valid (pw_valid hf k) hf
theorem pw_comm {n : Nat} {f : List Nat} (hf : Valid n f) : ∀ k, comp f (pw n f k) = pw n f (k + 1)
  | 0 => by
    show comp f (idm n) = comp (idm n) f
    rw [comp_id hf, id_comp hf]
  | k + 1 => by
    show comp f (comp (pw n f k) f) = comp (pw n f (k + 1)) f
    rw [← comp_assoc hf (pw_valid hf k), pw_comm hf k]
/-- the powers 0 to L - 1 are unlike, power L is power i -/
structure Cyc (n : Nat) (f : List Nat) (L i : Nat) : Prop where
  inj : ∀ a b, a < b → b < L → pw n f a ≠ pw n f b
  lt : i < L
  again : pw n f L = pw n f i
theorem Cyc.uniq {n : Nat} {f : List Nat} {L i L' i' : Nat} (A : Cyc n f L i) (B : Cyc n f L' i') : L = L' ∧ i = i' := by
  have e : L = L' := by
    rcases Nat.lt_trichotomy L L' with h | h | h
    · exact absurd A.again.symm (B.inj i L A.lt h)
    · exact h
    · exact absurd B.again.symm (A.inj i' L' B.lt h)
  subst e
  refine ⟨rfl, ?_⟩
  rcases Nat.lt_trichotomy i i' with h | h | h
  · exact absurd (A.again.symm.trans B.again) (A.inj i i' h B.lt)
  · exact h
  · exact absurd (B.again.symm.trans A.again) (A.inj i' i h A.lt)
theorem p1 : ∀ a < 1, pw 1 [a] 15 = pw 1 [a] 3 := by decide +kernel
theorem p2 : ∀ a < 2, ∀ b < 2, pw 2 [a, b] 15 = pw 2 [a, b] 3 := by decide +kernel
theorem p3 : ∀ a < 3, ∀ b < 3, ∀ c < 3, pw 3 [a, b, c] 15 = pw 3 [a, b, c] 3 := by decide +kernel
theorem p4 : ∀ a < 4, ∀ b < 4, ∀ c < 4, ∀ d < 4, pw 4 [a, b, c, d] 15 = pw 4 [a, b, c, d] 3 := by decide +kernel
theorem pw_small {n : Nat} {f : List Nat} (hf : Valid n f) (n1 : 1 ≤ n) (n4 : n ≤ 4) : pw n f 15 = pw n f 3 := by
  obtain ⟨l, h⟩ := hf
  have : n = 1 ∨ n = 2 ∨ n = 3 ∨ n = 4 := by omega
  rcases this with rfl | rfl | rfl | rfl
  · match f, l with
    | [a], _ => exact p1 a (h a (by simp))
  · match f, l with
    | [a, b], _ => exact p2 a (h a (by simp)) b (h b (by simp))
  · match f, l with
    | [a, b, c], _ => exact p3 a (h a (by simp)) b (h b (by simp)) c (h c (by simp))
  · match f, l with
    | [a, b, c, d], _ => exact p4 a (h a (by simp)) b (h b (by simp)) c (h c (by simp)) d (h d (by simp))
theorem inj_le {n : Nat} {f : List Nat} (hf : Valid n f) (n1 : 1 ≤ n) (n4 : n ≤ 4) {L : Nat} (inj : ∀ a b, a < b → b < L → pw n f a ≠ pw n f b) : L ≤ 15 := by
  by_cases h : L ≤ 15
  · exact h
  · exact absurd (pw_small hf n1 n4).symm (inj 3 15 (by decide) (by omega))
theorem walk_word {rows : List (List Nat)} {m : List (Nat × Nat)} (hm : madeTab 0 rows [] = some m) : ∀ (k j : Nat), j ≤ k → j < m.length + 1 → walk rows 0 ((wordTab m).getD j []) = j
  | k, 0, _, _ => by rw [word_0]; rfl
  | 0, j + 1, h, _ => by omega
  | k + 1, j + 1, h, hj => by
    obtain ⟨p, hp⟩ := lt_get' (show j < m.length by omega)
    have hlt : ∀ (k : Nat) p, m[k]? = some p → p.1 < k + 1 := fun k p h => (madeTab_lt hm h).1
    obtain ⟨a, row, b, c⟩ := madeTab_lt hm hp
    rw [word_at hlt hp, walk_app, walk_word hm k p.1 (by omega) (by omega)]
    show (rows.getD p.1 []).getD p.2 0 = j + 1
    rw [getD_of b, getD_of c]
theorem compW_comp {n : Nat} {gens : List (List Nat)} (gv : ∀ g ∈ gens, Valid n g) {x : List Nat} (hx : Valid n x) : ∀ {w : List Nat} {y : List Nat}, Valid n y → (∀ c ∈ w, c < gens.length) → compW gens (comp x y) w = comp x (compW gens y w)
  | [], y, _, _ => rfl
  | c :: w, y, hy, hw => by
    obtain ⟨g, hg⟩ := lt_get' (hw c List.mem_cons_self)
    show compW gens (comp (comp x y) (gens.getD c [])) w = comp x (compW gens (comp y (gens.getD c [])) w)
    rw [getD_of hg, comp_assoc hx hy]
    exact compW_comp gv hx (comp_valid hy (gv g (List.mem_of_getElem? hg))) fun d hd => hw d (List.mem_cons_of_mem _ hd)
section
variable {n : Nat} {gens found rows : List (List Nat)} {m : List (Nat × Nat)}
theorem Tab.vg (T : Tab n gens found rows) : ∀ g ∈ gens, Valid n g := T.gval
theorem Tab.vf (T : Tab n gens found rows) {i : Nat} {x : List Nat} (h : found[i]? = some x) : Valid n x := T.val x (List.mem_of_getElem? h)
/-- products by words are products of maps -/
theorem Tab.prodW (T : Tab n gens found rows) (hm : madeTab 0 rows [] = some m) (lm : m.length + 1 = rows.length) {i j : Nat} {x y : List Nat} (hx : found[i]? = some x) (hy : found[j]? = some y) (wl : ∀ c ∈ (wordTab m).getD j [], c < gens.length) :
    found[Mon.walk rows i ((wordTab m).getD j [])]? = some (comp x y) := by
  have hj : j < m.length + 1 := by rw [lm, T.len]; exact get_lt' hy
  have e0 := T.walk (s := 0) T.head wl
  rw [walk_word hm j j (Nat.le_refl _) hj, hy] at e0
  have e1 := T.walk hx wl
  have e2 := compW_comp T.vg (T.vf hx) (w := (wordTab m).getD j []) (y := idm n) idm_valid wl
  rw [comp_id (T.vf hx)] at e2
  rw [e1, e2, ← Option.some.inj e0]
end
/-- numbers of powers -/
structure Pows (n : Nat) (found : List (List Nat)) (f : List Nat) (pl : List Nat) (i : Nat) : Prop where
  cyc : Cyc n f pl.length i
  at' : ∀ k r, pl[k]? = some r → found[r]? = some (pw n f k)
end Mon
namespace Mon
section
variable {n : Nat} {gens found rows : List (List Nat)} {f : List Nat}
/-- what the search for powers has found: numbers of the powers, all unlike -/
structure PI (n : Nat) (found : List (List Nat)) (f : List Nat) (pl : List Nat) : Prop where
  at' : ∀ (k r : Nat), pl[k]? = some r → found[r]? = some (pw n f k)
  inj : ∀ a b, a < b → b < pl.length → pw n f a ≠ pw n f b
theorem PI.nd (h : PI n found f pl) : pl.Nodup := by
  rw [List.Nodup, List.pairwise_iff_getElem]
  intro i j hi hj ij e
  have a := h.at' i pl[i] (List.getElem?_eq_getElem hi)
  have b := h.at' j pl[j] (List.getElem?_eq_getElem hj)
  rw [e] at a
  exact h.inj i j ij hj (Option.some.inj (a.symm.trans b))
theorem PI.more (h : PI n found f pl) (nd : found.Nodup) {r : Nat} (hr : found[r]? = some (pw n f pl.length)) (nr : r ∉ pl) : PI n found f (pl ++ [r]) where
  at' := fun k t ht => by
    by_cases hk : k < pl.length
    · rw [List.getElem?_append_left hk] at ht
      exact h.at' k t ht
    · have l := get_lt' ht
      rw [List.length_append, List.length_singleton] at l
      have e : k = pl.length := by omega
      subst e
      rw [List.getElem?_append_right (Nat.le_refl _), Nat.sub_self] at ht
      cases ht
      exact hr
  inj := fun a b ab hb e => by
    rw [List.length_append, List.length_singleton] at hb
    by_cases hk : b < pl.length
    · exact h.inj a b ab hk e
    · have eb : b = pl.length := by omega
      subst eb
      obtain ⟨t, ht⟩ := lt_get' (l := pl) (i := a) ab
      have := h.at' a t ht
      rw [e] at this
      have : t = r := nodup_at nd this hr
      exact nr (this ▸ List.mem_of_getElem? ht)
theorem PI.done (h : PI n found f pl) {r i : Nat} (hr : found[r]? = some (pw n f pl.length)) (hi : pl[i]? = some r) : Pows n found f pl i :=
  ⟨⟨h.inj, get_lt' hi, Option.some.inj (hr.symm.trans (h.at' i r hi))⟩, h.at'⟩
theorem PI.zero (T : Tab n gens found rows) : PI n found f [0] where
  at' := fun k r h => by
    have l := get_lt' h
    have e : k = 0 := by simpa using l
    subst e
    cases h
    exact T.head
  inj := fun a b ab hb => by
    have : b < 1 := hb
    omega
end
end Mon

set_option Elab.async false
set_option linter.all false
set_option maxRecDepth 100000
set_option maxHeartbeats 2000000
/-! Least words that lead somewhere, found level by level: pure, for letters put behind or in front. -/
namespace Mon
/-- texts of one length, in their order -/
def llt : List Nat → List Nat → Prop
  | a :: x, b :: y => a < b ∨ a = b ∧ llt x y
  | _, _ => False
theorem llt_irr : ∀ {x : List Nat}, ¬ llt x x
  | [], h => h
  | a :: x, h => by
    rcases h with h | ⟨_, h⟩
    · omega
    · exact llt_irr h
theorem llt_trans : ∀ {x y z : List Nat}, llt x y → llt y z → llt x z
  | [], _, _, h, _ => h.elim
  | _ :: _, [], _, h, _ => h.elim
  | _ :: _, _ :: _, [], _, h => h.elim
  | a :: x, b :: y, c :: z, h, k => by
    rcases h with h | ⟨rfl, h⟩
    · rcases k with k | ⟨rfl, k⟩
      · exact .inl (by omega)
      · exact .inl h
    · rcases k with k | ⟨rfl, k⟩
      · exact .inl k
      · exact .inr ⟨rfl, llt_trans h k⟩
theorem llt_tot : ∀ {x y : List Nat}, x.length = y.length → llt x y ∨ x = y ∨ llt y x
  | [], [], _ => .inr (.inl rfl)
  | [], _ :: _, h => by simp at h
  | _ :: _, [], h => by simp at h
  | a :: x, b :: y, h => by
    rcases Nat.lt_trichotomy a b with q | rfl | q
    · exact .inl (.inl q)
    · rcases llt_tot (x := x) (y := y) (by simpa using h) with r | rfl | r
      · exact .inl (.inr ⟨rfl, r⟩)
      · exact .inr (.inl rfl)
      · exact .inr (.inr (.inr ⟨rfl, r⟩))
    · exact .inr (.inr (.inl q))
theorem llt_app : ∀ {x y : List Nat} {u v : List Nat}, llt x y → llt (x ++ u) (y ++ v)
  | [], _, _, _, h => h.elim
  | _ :: _, [], _, _, h => h.elim
  | a :: x, b :: y, u, v, h => by
    rcases h with h | ⟨rfl, h⟩
    · exact .inl h
    · exact .inr ⟨rfl, llt_app h⟩
theorem llt_snoc : ∀ {x : List Nat} {c d : Nat}, c < d → llt (x ++ [c]) (x ++ [d])
  | [], c, d, h => .inl h
  | a :: x, c, d, h => .inr ⟨rfl, llt_snoc h⟩
/-- how words grow by a letter -/
structure Wy (wd : Nat) (ext : Nat → List Nat → List Nat) : Prop where
  len : ∀ c u, (ext c u).length = u.length + 1
  let' : ∀ c u, c < wd → (∀ d ∈ u, d < wd) → ∀ d ∈ ext c u, d < wd
  split : ∀ w : List Nat, w ≠ [] → (∀ d ∈ w, d < wd) → ∃ c u, w = ext c u ∧ c < wd ∧ ∀ d ∈ u, d < wd
  mono : ∀ c u v, llt u v → llt (ext c u) (ext c v)
theorem wy_back {wd : Nat} : Wy wd (fun c u => u ++ [c]) where
  len := fun c u => by simp
  let' := fun c u hc hu d hd => by
    rcases List.mem_append.mp hd with h | h
    · exact hu d h
    · rw [List.mem_singleton.mp h]; exact hc
  split := fun w hw hl => by
    have e := List.dropLast_concat_getLast hw
    refine ⟨w.getLast hw, w.dropLast, e.symm, hl _ (List.getLast_mem hw), fun d hd => hl d ((List.dropLast_sublist w).subset hd)⟩
  mono := fun c u v h => llt_app h
theorem wy_front {wd : Nat} : Wy wd (fun c u => c :: u) where
  len := fun c u => rfl
  let' := fun c u hc hu d hd => by
    rcases List.mem_cons.mp hd with rfl | h
    · exact hc
    · exact hu d h
  split := fun w hw hl => by
    match w, hw with
    | c :: u, _ => exact ⟨c, u, rfl, hl c List.mem_cons_self, fun d hd => hl d (List.mem_cons_of_mem _ hd)⟩
  mono := fun c u v h => .inr ⟨rfl, h⟩
section
variable {wd : Nat} {ext : Nat → List Nat → List Nat} {act : List Nat → Nat} {f : Nat → Nat → Nat}
/-- w is the first word that leads to t -/
structure First (wd : Nat) (act : List Nat → Nat) (t : Nat) (w : List Nat) : Prop where
  ok : ∀ d ∈ w, d < wd
  at' : act w = t
  least : ∀ v : List Nat, (∀ d ∈ v, d < wd) → act v = t → w.length < v.length ∨ w.length = v.length ∧ (w = v ∨ llt w v)
theorem First.uniq {t : Nat} {w v : List Nat} (a : First wd act t w) (b : First wd act t v) : w = v := by
  rcases a.least v b.ok b.at' with h | ⟨h, rfl | h⟩
  · rcases b.least w a.ok a.at' with k | ⟨k, _⟩ <;> omega
  · rfl
  · rcases b.least w a.ok a.at' with k | ⟨k, rfl | k⟩
    · omega
    · rfl
    · exact (llt_irr (llt_trans h k)).elim
abbrev nums (K : List (Nat × List Nat)) : List Nat := K.map (·.1)
/-- what is known when k levels are done -/
structure Lev (wd : Nat) (act : List Nat → Nat) (k : Nat) (K L : List (Nat × List Nat)) : Prop where
  fst : ∀ p ∈ K, First wd act p.1 p.2 ∧ p.2.length ≤ k
  clo : ∀ v : List Nat, (∀ d ∈ v, d < wd) → v.length ≤ k → act v ∈ nums K
  lev : ∀ p, p ∈ L ↔ p ∈ K ∧ p.2.length = k
  srt : L.Pairwise fun p q => llt p.2 q.2
theorem Lev.zero {s : Nat} (h0 : act [] = s) : Lev wd act 0 [(s, [])] [(s, [])] where
  fst := fun p hp => by
    rw [List.mem_singleton.mp hp]
    exact ⟨⟨(fun d hd => nomatch hd), h0, (fun v hv _ => by
      cases v with
      | nil => exact .inr ⟨rfl, .inl rfl⟩
      | cons a r => exact .inl (by simp))⟩, Nat.le_refl _⟩
  clo := fun v hv hl => by
    cases v with
    | nil => simp [h0]
    | cons a r => simp at hl
  lev := fun p => ⟨fun h => ⟨h, by rw [List.mem_singleton.mp h]; rfl⟩, fun h => h.1⟩
  srt := by simp
/-- while the level's words are grown: cs what comes, pre of it seen, N what is new -/
structure Mid (wd : Nat) (ext : Nat → List Nat → List Nat) (act : List Nat → Nat) (f : Nat → Nat → Nat) (k : Nat) (K L cs : List (Nat × List Nat)) : Prop where
  wy : Wy wd ext
  step : ∀ c u, act (ext c u) = f (act u) c
  lv : Lev wd act k K L
  mem : ∀ q, q ∈ cs ↔ ∃ p c, p ∈ L ∧ c < wd ∧ q = (f p.1 c, ext c p.2)
  srt : cs.Pairwise fun p q => llt p.2 q.2
/-- what is new when the first i of cs are seen -/
structure New (wd : Nat) (act : List Nat → Nat) (k : Nat) (K cs : List (Nat × List Nat)) (i : Nat) (N : List (Nat × List Nat)) : Prop where
  fst : ∀ p ∈ N, First wd act p.1 p.2 ∧ p.2.length = k + 1
  seen : ∀ q ∈ cs.take i, q.1 ∈ nums (K ++ N)
  sub : N.Sublist (cs.take i)
theorem New.zero {k : Nat} {K cs : List (Nat × List Nat)} : New wd act k K cs 0 [] :=
  ⟨fun p hp => (by cases hp), fun q hq => (by simp at hq), by simp⟩
theorem take_succ' {α : Type} {l : List α} {i : Nat} {x : α} (h : l[i]? = some x) : l.take (i + 1) = l.take i ++ [x] := by
  rw [List.take_add_one, h]
  rfl
theorem New.old {k i : Nat} {K cs N : List (Nat × List Nat)} (h : New wd act k K cs i N) {q : Nat × List Nat} (hq : cs[i]? = some q) (hn : q.1 ∈ nums (K ++ N)) : New wd act k K cs (i + 1) N where
  fst := h.fst
  seen := fun r hr => by
    rw [take_succ' hq] at hr
    rcases List.mem_append.mp hr with hr | hr
    · exact h.seen r hr
    · rw [List.mem_singleton.mp hr]; exact hn
  sub := h.sub.trans (by rw [take_succ' hq]; exact List.sublist_append_left _ _)
theorem Mid.new {k i : Nat} {K L cs N : List (Nat × List Nat)} (M : Mid wd ext act f k K L cs) (h : New wd act k K cs i N) {q : Nat × List Nat} (hq : cs[i]? = some q) (hn : q.1 ∉ nums (K ++ N)) : New wd act k K cs (i + 1) (N ++ [q]) := by
  obtain ⟨p, c, hp, hc, eq⟩ := (M.mem q).mp (List.mem_of_getElem? hq)
  obtain ⟨pK, pl⟩ := (M.lv.lev p).mp hp
  obtain ⟨Fp, _⟩ := M.lv.fst p pK
  have ln : q.2.length = k + 1 := by rw [eq, M.wy.len, pl]
  have F : First wd act q.1 q.2 := by
    refine ⟨by rw [eq]; exact M.wy.let' c p.2 hc Fp.ok, by rw [eq, M.step, Fp.at'], fun v hv hvt => ?_⟩
    have far : k < v.length := by
      by_cases hl : v.length ≤ k
      · have := M.lv.clo v hv hl
        rw [hvt] at this
        exact absurd (by rw [nums, List.map_append]; exact List.mem_append_left _ this) hn
      · omega
    by_cases h1 : v.length = k + 1
    · obtain ⟨c', u, ev, hc', hu⟩ := M.wy.split v (fun e => by rw [e] at far; simp at far) hv
      have lu : u.length = k := by rw [ev, M.wy.len] at h1; omega
      obtain ⟨r, hr, er⟩ := List.mem_map.mp (M.lv.clo u hu (by omega))
      obtain ⟨Fr, lr⟩ := M.lv.fst r hr
      have tr : act (ext c' r.2) = q.1 := by rw [M.step, Fr.at', er, ← M.step, ← ev, hvt]
      by_cases h2 : r.2.length = k
      · have rL := (M.lv.lev r).mpr ⟨hr, h2⟩
        have rc : (q.1, ext c' r.2) ∈ cs := (M.mem _).mpr ⟨r, c', rL, hc', by rw [← tr, M.step, Fr.at']⟩
        have le1 : ext c' r.2 = v ∨ llt (ext c' r.2) v := by
          rcases Fr.least u hu er.symm with z | ⟨_, z | z⟩
          · omega
          · exact .inl (by rw [z, ← ev])
          · exact .inr (by rw [ev]; exact M.wy.mono _ _ _ z)
        have le2 : q.2 = ext c' r.2 ∨ llt q.2 (ext c' r.2) := by
          obtain ⟨j, hj⟩ := List.getElem?_of_mem rc
          have nj : ¬ j < i := fun z => hn (h.seen (q.1, ext c' r.2) (List.mem_of_getElem? (i := j) (by rw [List.getElem?_take_of_lt z]; exact hj)))
          by_cases e : j = i
          · subst e
            rw [hq] at hj
            exact .inl (by rw [Option.some.inj hj])
          · have li := get_lt' hq
            have lj := get_lt' hj
            have z := List.pairwise_iff_getElem.mp M.srt i j li lj (by omega)
            rw [List.getElem?_eq_getElem li] at hq
            rw [List.getElem?_eq_getElem lj] at hj
            rw [Option.some.inj hq, Option.some.inj hj] at z
            exact .inr z
        refine .inr ⟨by omega, ?_⟩
        rcases le2 with a | a <;> rcases le1 with b | b
        · exact .inl (a.trans b)
        · exact .inr (a ▸ b)
        · exact .inr (b ▸ a)
        · exact .inr (llt_trans a b)
      · have := M.lv.clo (ext c' r.2) (M.wy.let' _ _ hc' Fr.ok) (by rw [M.wy.len]; omega)
        rw [tr] at this
        exact absurd (by rw [nums, List.map_append]; exact List.mem_append_left _ this) hn
    · exact .inl (by omega)
  refine ⟨fun r hr => ?_, fun r hr => ?_, ?_⟩
  · rcases List.mem_append.mp hr with hr | hr
    · exact h.fst r hr
    · rw [List.mem_singleton.mp hr]
      exact ⟨F, ln⟩
  · rw [take_succ' hq] at hr
    rw [nums, ← List.append_assoc, List.map_append]
    rcases List.mem_append.mp hr with hr | hr
    · exact List.mem_append_left _ (h.seen r hr)
    · rw [List.mem_singleton.mp hr]
      exact List.mem_append_right _ (by simp)
  · rw [take_succ' hq]
    exact List.Sublist.append h.sub (List.Sublist.refl _)
/-- the level is done -/
theorem Mid.done {k : Nat} {K L cs N : List (Nat × List Nat)} (M : Mid wd ext act f k K L cs) (h : New wd act k K cs cs.length N) : Lev wd act (k + 1) (K ++ N) N where
  fst := fun p hp => by
    rcases List.mem_append.mp hp with hp | hp
    · obtain ⟨a, b⟩ := M.lv.fst p hp
      exact ⟨a, by omega⟩
    · obtain ⟨a, b⟩ := h.fst p hp
      exact ⟨a, by omega⟩
  clo := fun v hv hl => by
    by_cases h1 : v.length ≤ k
    · rw [nums, List.map_append]
      exact List.mem_append_left _ (M.lv.clo v hv h1)
    · obtain ⟨c', u, ev, hc', hu⟩ := M.wy.split v (fun e => by rw [e] at h1; simp at h1) hv
      have lu : u.length = k := by
        have := M.wy.len c' u
        rw [← ev] at this
        omega
      obtain ⟨r, hr, er⟩ := List.mem_map.mp (M.lv.clo u hu (by omega))
      obtain ⟨Fr, lr⟩ := M.lv.fst r hr
      have tr : act (ext c' r.2) = act v := by rw [M.step, Fr.at', er, ← M.step, ← ev]
      by_cases h2 : r.2.length = k
      · have rL := (M.lv.lev r).mpr ⟨hr, h2⟩
        have rc : (act v, ext c' r.2) ∈ cs := (M.mem _).mpr ⟨r, c', rL, hc', by rw [← tr, M.step, Fr.at']⟩
        exact h.seen _ (by rw [List.take_length]; exact rc)
      · have := M.lv.clo (ext c' r.2) (M.wy.let' _ _ hc' Fr.ok) (by rw [M.wy.len]; omega)
        rw [tr] at this
        rw [nums, List.map_append]
        exact List.mem_append_left _ this
  lev := fun p => ⟨fun hp => ⟨List.mem_append_right _ hp, (h.fst p hp).2⟩, fun ⟨hp, hl⟩ => by
    rcases List.mem_append.mp hp with hp | hp
    · have := (M.lv.fst p hp).2
      omega
    · exact hp⟩
  srt := M.srt.sublist (by have := h.sub; rwa [List.take_length] at this)
/-- nothing on the level: all that is led to is known -/
theorem Lev.all {k : Nat} {K : List (Nat × List Nat)} (wy : Wy wd ext) (step : ∀ c u, act (ext c u) = f (act u) c) (h : Lev wd act k K []) : ∀ (n : Nat) (v : List Nat), v.length ≤ n → (∀ d ∈ v, d < wd) → act v ∈ nums K
  | 0, v, hl, hv => h.clo v hv (by omega)
  | n + 1, v, hl, hv => by
    by_cases h0 : v = []
    · rw [h0]
      exact h.clo [] (fun d hd => nomatch hd) (Nat.zero_le _)
    · obtain ⟨c', u, ev, hc', hu⟩ := wy.split v h0 hv
      have lu : u.length ≤ n := by
        have := wy.len c' u
        rw [← ev] at this
        omega
      obtain ⟨r, hr, er⟩ := List.mem_map.mp (Lev.all wy step h n u lu hu)
      obtain ⟨Fr, lr⟩ := h.fst r hr
      have tr : act (ext c' r.2) = act v := by rw [step, Fr.at', er, ← step, ← ev]
      have nl : r.2.length ≠ k := fun e => by
        have := (h.lev r).mpr ⟨hr, e⟩
        cases this
      rw [← tr]
      exact h.clo _ (wy.let' _ _ hc' Fr.ok) (by rw [wy.len]; omega)
end
end Mon
namespace Mon
def stp (rows : List (List Nat)) (r c : Nat) : Nat := (rows.getD r []).getD c 0
def extB (b : Bool) (c : Nat) (u : List Nat) : List Nat := if b = true then c :: u else u ++ [c]
def actB (b : Bool) (rows : List (List Nat)) (s : Nat) (w : List Nat) : Nat := if b = true then w.foldr (fun c r => stp rows r c) s else walk rows s w
theorem actB_nil {b : Bool} {rows : List (List Nat)} {s : Nat} : actB b rows s [] = s := by cases b <;> rfl
theorem actB_ext {b : Bool} {rows : List (List Nat)} {s : Nat} (c : Nat) (u : List Nat) : actB b rows s (extB b c u) = stp rows (actB b rows s u) c := by
  cases b
  · show walk rows s (u ++ [c]) = _
    rw [walk_app]
    rfl
  · rfl
theorem wyB {b : Bool} {wd : Nat} : Wy wd (extB b) := by
  cases b
  · exact wy_back
  · exact wy_front
/-- the steps from a level, in the order in which they are tried -/
def stepsB (b : Bool) (wd : Nat) (L : List (Nat × List Nat)) : List ((Nat × List Nat) × Nat) := if b = true then (List.range wd).flatMap fun c => L.map fun p => (p, c) else L.flatMap fun p => (List.range wd).map fun c => (p, c)
def candB (b : Bool) (rows : List (List Nat)) (q : (Nat × List Nat) × Nat) : Nat × List Nat := (stp rows q.1.1 q.2, extB b q.2 q.1.2)
theorem mem_steps {b : Bool} {wd : Nat} {L : List (Nat × List Nat)} {q : (Nat × List Nat) × Nat} : q ∈ stepsB b wd L ↔ q.1 ∈ L ∧ q.2 < wd := by
  cases b
  · simp only [stepsB, Bool.false_eq_true, if_false, List.mem_flatMap, List.mem_map, List.mem_range]
    exact ⟨fun ⟨p, hp, c, hc, e⟩ => by subst e; exact ⟨hp, hc⟩, fun ⟨hp, hc⟩ => ⟨q.1, hp, q.2, hc, rfl⟩⟩
  · simp only [stepsB, if_true, List.mem_flatMap, List.mem_map, List.mem_range]
    exact ⟨fun ⟨c, hc, p, hp, e⟩ => by subst e; exact ⟨hp, hc⟩, fun ⟨hp, hc⟩ => ⟨q.2, hc, q.1, hp, rfl⟩⟩
theorem pw_flat {α β : Type} {R : β → β → Prop} {f : α → List β} : ∀ {l : List α}, (∀ a ∈ l, (f a).Pairwise R) → l.Pairwise (fun a a' => ∀ x ∈ f a, ∀ y ∈ f a', R x y) → (l.flatMap f).Pairwise R
  | [], _, _ => by simp
  | a :: l, h, k => by
    obtain ⟨k1, k2⟩ := List.pairwise_cons.mp k
    rw [List.flatMap_cons, List.pairwise_append]
    refine ⟨h a List.mem_cons_self, pw_flat (fun b hb => h b (List.mem_cons_of_mem _ hb)) k2, fun x hx y hy => ?_⟩
    obtain ⟨b, hb, hy⟩ := List.mem_flatMap.mp hy
    exact k1 b hb x hx y hy
theorem srt_steps {b : Bool} {rows : List (List Nat)} {wd : Nat} {L : List (Nat × List Nat)} (h : L.Pairwise fun p q => llt p.2 q.2) (len : ∀ p ∈ L, ∀ q ∈ L, p.2.length = q.2.length) : ((stepsB b wd L).map (candB b rows)).Pairwise fun p q => llt p.2 q.2 := by
  rw [List.pairwise_map]
  have rg : (List.range wd).Pairwise (· < ·) := List.pairwise_lt_range
  cases b
  · simp only [stepsB, Bool.false_eq_true, if_false]
    refine pw_flat (fun p hp => ?_) (h.imp fun {p q} hpq x hx y hy => ?_)
    · rw [List.pairwise_map]
      exact rg.imp fun {c d} hcd => llt_snoc hcd
    · obtain ⟨c, hc, rfl⟩ := List.mem_map.mp hx
      obtain ⟨d, hd, rfl⟩ := List.mem_map.mp hy
      exact llt_app hpq
  · simp only [stepsB, if_true]
    refine pw_flat (fun c hc => ?_) (rg.imp fun {c d} hcd x hx y hy => ?_)
    · rw [List.pairwise_map]
      exact h.imp fun {p q} hpq => .inr ⟨rfl, hpq⟩
    · obtain ⟨p, hp, rfl⟩ := List.mem_map.mp hx
      obtain ⟨q, hq, rfl⟩ := List.mem_map.mp hy
      exact .inl hcd
theorem midB {b : Bool} {rows : List (List Nat)} {wd s k : Nat} {K L : List (Nat × List Nat)} (h : Lev wd (actB b rows s) k K L) : Mid wd (extB b) (actB b rows s) (stp rows) k K L ((stepsB b wd L).map (candB b rows)) where
  wy := wyB
  step := actB_ext
  lv := h
  mem := fun q => by
    rw [List.mem_map]
    exact ⟨fun ⟨r, hr, e⟩ => ⟨r.1, r.2, (mem_steps.mp hr).1, (mem_steps.mp hr).2, e.symm⟩, fun ⟨p, c, hp, hc, e⟩ => ⟨(p, c), mem_steps.mpr ⟨hp, hc⟩, e.symm⟩⟩
  srt := srt_steps h.srt fun p hp q hq => by rw [((h.lev p).mp hp).2, ((h.lev q).mp hq).2]
/-- what the least ways are -/
structure Ways (b : Bool) (rows : List (List Nat)) (wd s t : Nat) (K : List (Nat × List Nat)) : Prop where
  fst : ∀ p ∈ K, First wd (actB b rows s) p.1 p.2
  nd : (nums K).Nodup
  short : ∀ p ∈ K, p.2.length ≤ 2000 ∧ p.2.length < rows.length
  all : t ∈ nums K ∨ ∀ v : List Nat, (∀ d ∈ v, d < wd) → actB b rows s v ≠ t
end Mon

set_option Elab.async false
set_option linter.all false
set_option maxRecDepth 100000
set_option maxHeartbeats 4000000
/-! Least words of products of maps of up to four points are short: what goes ahead of an element on its way are unlike maps whose kernels grow. -/
namespace Mon
def prs : List (Nat × Nat) := [(0, 1), (0, 2), (0, 3), (1, 2), (1, 3), (2, 3)]
/-- which points go together -/
def kp (x : List Nat) : List Bool := prs.map fun p => decide (x[p.1]? = x[p.2]?)
def wt (l : List Bool) : Nat := l.countP id
def kle (x y : List Nat) : Prop := ∀ a b : Nat, x[a]? = x[b]? → y[a]? = y[b]?
theorem kle_refl (x : List Nat) : kle x x := fun _ _ h => h
theorem kle_trans {x y z : List Nat} (h : kle x y) (k : kle y z) : kle x z := fun a b e => k a b (h a b e)
theorem kle_comp (x y : List Nat) : kle x (comp x y) := fun a b e => by
  unfold comp
  rw [List.getElem?_map, List.getElem?_map, e]
/-- all maps of four points -/
def all4 : List (List Nat) := (List.range 4).flatMap fun a => (List.range 4).flatMap fun b => (List.range 4).flatMap fun c => (List.range 4).map fun d => [a, b, c, d]
theorem in_all4 {x : List Nat} (h : Valid 4 x) : x ∈ all4 := by
  obtain ⟨l, o⟩ := h
  match x, l with
  | [a, b, c, d], _ =>
    simp only [all4, List.mem_flatMap, List.mem_map, List.mem_range]
    exact ⟨a, o a (by simp), b, o b (by simp), c, o c (by simp), d, o d (by simp), rfl⟩
def c4 (v : Nat) : Nat := [24, 24, 12, 12, 0, 0, 4].getD v 0
def parts : List (List Bool) := [[false, false, false, false, false, false], [false, false, false, false, false, true], [false, false, false, false, true, false], [false, false, false, true, false, false], [false, false, false, true, true, true], [false, false, true, false, false, false], [false, false, true, true, false, false], [false, true, false, false, false, false], [false, true, false, false, true, false], [false, true, true, false, false, true], [true, false, false, false, false, false], [true, false, false, false, false, true], [true, false, true, false, true, false], [true, true, false, true, false, false], [true, true, true, true, true, true]]
theorem in_parts : ∀ x ∈ all4, kp x ∈ parts := by decide +kernel
theorem fewK : ∀ k ∈ parts, (all4.filter fun y => kp y = k).length ≤ c4 (wt k) ∧ wt k < 7 := by decide +kernel
theorem few4 (x : List Nat) (h : x ∈ all4) : (all4.filter fun y => kp y = kp x).length ≤ c4 (wt (kp x)) ∧ wt (kp x) < 7 := fewK _ (in_parts x h)
theorem sub_len {α : Type} [DecidableEq α] : ∀ {l m : List α}, l.Nodup → (∀ x ∈ l, x ∈ m) → l.length ≤ m.length
  | [], m, _, _ => Nat.zero_le _
  | x :: l, m, nd, h => by
    obtain ⟨h1, h2⟩ := List.nodup_cons.mp nd
    have q := sub_len (l := l) (m := m.erase x) h2 fun y hy => (List.mem_erase_of_ne (fun e : y = x => h1 (e ▸ hy))).mpr (h y (List.mem_cons_of_mem _ hy))
    rw [List.length_erase_of_mem (h x List.mem_cons_self)] at q
    have := List.length_pos_of_mem (h x List.mem_cons_self)
    rw [List.length_cons]
    omega
/-- pointwise, a list of truths below another of the same weight is that -/
theorem wt_eq : ∀ {l m : List Bool}, l.length = m.length → (∀ (i : Nat), l[i]? = some true → m[i]? = some true) → wt m ≤ wt l → l = m
  | [], [], _, _, _ => rfl
  | a :: l, b :: m, e, h, w => by
    have h0 := h 0
    have hr : ∀ (i : Nat), l[i]? = some true → m[i]? = some true := fun i hi => h (i + 1) hi
    have mono : ∀ {l m : List Bool}, l.length = m.length → (∀ (i : Nat), l[i]? = some true → m[i]? = some true) → wt l ≤ wt m := by
      intro l
      induction l with
      | nil => intro m _ _; exact Nat.zero_le _
      | cons a l ih =>
        intro m e h
        match m, e with
        | b :: m, e =>
          have q := ih (m := m) (by simpa using e) fun i hi => h (i + 1) hi
          have h0 := h 0
          cases a <;> cases b <;> simp [wt] at * <;> omega
    have q := mono (by simpa using e) hr
    have lm : l.length = m.length := by simpa using e
    cases a <;> cases b <;> simp [wt] at * <;> first | exact wt_eq lm hr (by simpa [wt] using w) | (exfalso; omega)
theorem kp_same {x y : List Nat} (h : kle x y) (w : wt (kp y) ≤ wt (kp x)) : kp x = kp y := by
  refine wt_eq (by simp [kp]) (fun i hi => ?_) w
  unfold kp at hi ⊢
  rw [List.getElem?_map] at hi ⊢
  obtain ⟨p, hp, e⟩ := Option.map_eq_some_iff.mp hi
  rw [hp]
  exact congrArg some (decide_eq_true (h _ _ (of_decide_eq_true e)))
/-- unlike maps of four points whose kernels grow are few -/
theorem chain_few {l : List (List Nat)} (nd : l.Nodup) (val : ∀ x ∈ l, Valid 4 x) (ch : l.Pairwise kle) : l.length ≤ 76 := by
  have tot : (l.map fun x => wt (kp x)).length = (cvec 7 (l.map fun x => wt (kp x))).sum := (cvec_sum (N := 7) fun v hv => by
    obtain ⟨x, hx, rfl⟩ := List.mem_map.mp hv
    exact (few4 x (in_all4 (val x hx))).2).symm
  have each : ∀ v, (l.map fun x => wt (kp x)).count v ≤ c4 v := fun v => by
    have e : (l.map fun x => wt (kp x)).count v = (l.filter fun x => wt (kp x) = v).length := by
      rw [List.count, List.countP_map, List.countP_eq_length_filter]
      congr 2
    rw [e]
    cases hf : l.filter fun x => wt (kp x) = v with
    | nil => exact Nat.zero_le _
    | cons x r =>
      rw [← hf]
      have hx : x ∈ l.filter fun x => wt (kp x) = v := by rw [hf]; exact List.mem_cons_self
      obtain ⟨xl, xv⟩ := List.mem_filter.mp hx
      have xv : wt (kp x) = v := of_decide_eq_true xv
      have ch' : (l.filter fun x => wt (kp x) = v).Pairwise kle := ch.sublist List.filter_sublist
      rw [hf] at ch'
      have h1 := (List.pairwise_cons.mp ch').1
      have q := few4 x (in_all4 (val x xl))
      rw [xv] at q
      refine Nat.le_trans (sub_len (nd.sublist List.filter_sublist) fun y hy => ?_) q.1
      obtain ⟨yl, yv⟩ := List.mem_filter.mp hy
      have yv : wt (kp y) = v := of_decide_eq_true yv
      refine List.mem_filter.mpr ⟨in_all4 (val y yl), decide_eq_true ?_⟩
      rw [hf] at hy
      rcases List.mem_cons.mp hy with rfl | hy
      · rfl
      · exact (kp_same (h1 y hy) (by omega)).symm
  rw [List.length_map] at tot
  rw [tot]
  show ((List.range 7).map fun k => (l.map fun x => wt (kp x)).count k).sum ≤ 76
  have e0 := each 0
  have e1 := each 1
  have e2 := each 2
  have e3 := each 3
  have e4 := each 4
  have e5 := each 5
  have e6 := each 6
  rw [show c4 0 = 24 from rfl] at e0
  rw [show c4 1 = 24 from rfl] at e1
  rw [show c4 2 = 12 from rfl] at e2
  rw [show c4 3 = 12 from rfl] at e3
  rw [show c4 4 = 0 from rfl] at e4
  rw [show c4 5 = 0 from rfl] at e5
  rw [show c4 6 = 4 from rfl] at e6
  simp only [show List.range 7 = [0, 1, 2, 3, 4, 5, 6] from rfl, List.map_cons, List.map_nil, List.sum_cons, List.sum_nil]
  omega
section
variable {n : Nat} {gens found rows : List (List Nat)} {m : List (Nat × Nat)}
/-- the way to element j -/
theorem way (T : Tab n gens found rows) (hm : madeTab 0 rows [] = some m) (lm : m.length + 1 = rows.length) : ∀ (k j : Nat), j ≤ k → j < m.length + 1 → ∃ (ps : List (List Nat)) (z : List Nat), found[j]? = some z ∧ ps.length = ((wordTab m).getD j []).length + 1 ∧ ps.Nodup ∧ ps.Pairwise kle ∧ (∀ x ∈ ps, kle x z) ∧ ∀ x ∈ ps, ∃ i, i ≤ j ∧ found[i]? = some x
  | k, 0, _, _ => ⟨[idm n], idm n, T.head, by rw [word_0]; rfl, by simp, by simp, fun x hx => by rw [List.mem_singleton.mp hx]; exact kle_refl _, fun x hx => ⟨0, Nat.le_refl _, by rw [List.mem_singleton.mp hx]; exact T.head⟩⟩
  | 0, j + 1, h, _ => by omega
  | k + 1, j + 1, h, hj => by
    obtain ⟨p, hp⟩ := lt_get' (show j < m.length by omega)
    have hlt : ∀ (k : Nat) p, m[k]? = some p → p.1 < k + 1 := fun k p h => (madeTab_lt hm h).1
    obtain ⟨a, row, b, c⟩ := madeTab_lt hm hp
    obtain ⟨ps, z, hz, lps, nd, pw, le, mem⟩ := way T hm lm k p.1 (by omega) (by omega)
    obtain ⟨x, g, hx, hg, ht⟩ := T.ent p.1 row b p.2 (j + 1) c
    rw [hz] at hx
    cases hx
    refine ⟨ps ++ [comp z g], comp z g, ht, ?_, ?_, ?_, ?_, ?_⟩
    · rw [List.length_append, lps, word_at hlt hp, List.length_append]
      rfl
    · rw [List.nodup_append]
      refine ⟨nd, by simp, fun x hx y hy e => ?_⟩
      rw [List.mem_singleton.mp hy] at e
      obtain ⟨i, il, hi⟩ := mem x hx
      rw [e] at hi
      have := nodup_at T.nd hi ht
      omega
    · rw [List.pairwise_append]
      refine ⟨pw, by simp, fun x hx y hy => ?_⟩
      rw [List.mem_singleton.mp hy]
      exact kle_trans (le x hx) (kle_comp z g)
    · intro x hx
      rcases List.mem_append.mp hx with hx | hx
      · exact kle_trans (le x hx) (kle_comp z g)
      · rw [List.mem_singleton.mp hx]
        exact kle_refl _
    · intro x hx
      rcases List.mem_append.mp hx with hx | hx
      · obtain ⟨i, il, hi⟩ := mem x hx
        exact ⟨i, by omega, hi⟩
      · rw [List.mem_singleton.mp hx]
        exact ⟨j + 1, Nat.le_refl _, ht⟩
theorem word_100 (T : Tab n gens found rows) (n1 : 1 ≤ n) (n4 : n ≤ 4) (hm : madeTab 0 rows [] = some m) (lm : m.length + 1 = rows.length) (j : Nat) : ((wordTab m).getD j []).length ≤ 100 := by
  by_cases hj : j < m.length + 1
  · obtain ⟨ps, z, hz, lps, nd, pw, le, mem⟩ := way T hm lm j j (Nat.le_refl _) hj
    have val : ∀ x ∈ ps, Valid n x := fun x hx => by
      obtain ⟨i, _, hi⟩ := mem x hx
      exact T.vf hi
    by_cases h4 : n = 4
    · subst h4
      have := chain_few nd val pw
      omega
    · have f1 := maps_few nd val
      have : n = 1 ∨ n = 2 ∨ n = 3 := by omega
      have f2 : n ^ n ≤ 27 := by rcases this with rfl | rfl | rfl <;> decide
      omega
  · rw [List.getD, List.getElem?_eq_none (by rw [word_len]; omega)]
    exact Nat.zero_le _
end
end Mon

set_option Elab.async false
set_option linter.all false
set_option maxRecDepth 100000
set_option maxHeartbeats 2000000
/-! Words of a table's numbers are the first ones: pure. -/
namespace Mon
/-- texts by length, then in their order -/
def slt (a b : List Nat) : Prop := a.length < b.length ∨ a.length = b.length ∧ llt a b
theorem slt_irr {x : List Nat} : ¬ slt x x := fun h => by
  rcases h with h | ⟨_, h⟩
  · exact Nat.lt_irrefl _ h
  · exact llt_irr h
theorem slt_trans {x y z : List Nat} (h : slt x y) (k : slt y z) : slt x z := by
  rcases h with h | ⟨h, h2⟩ <;> rcases k with k | ⟨k, k2⟩
  · exact .inl (by omega)
  · exact .inl (by omega)
  · exact .inl (by omega)
  · exact .inr ⟨by omega, llt_trans h2 k2⟩
theorem slt_tot {x y : List Nat} : slt x y ∨ x = y ∨ slt y x := by
  rcases Nat.lt_trichotomy x.length y.length with h | h | h
  · exact .inl (.inl h)
  · rcases llt_tot h with k | k | k
    · exact .inl (.inr ⟨h, k⟩)
    · exact .inr (.inl k)
    · exact .inr (.inr (.inr ⟨h.symm, k⟩))
  · exact .inr (.inr (.inl h))
theorem slt_app {x y : List Nat} {c d : Nat} (h : slt x y) : slt (x ++ [c]) (y ++ [d]) := by
  rcases h with h | ⟨h, k⟩
  · exact .inl (by simp; omega)
  · exact .inr ⟨by simp [h], llt_app k⟩
theorem slt_snoc {x : List Nat} {c d : Nat} (h : c < d) : slt (x ++ [c]) (x ++ [d]) := .inr ⟨by simp, llt_snoc h⟩
theorem slt_cons {x y : List Nat} {a : Nat} (h : slt (a :: x) (a :: y)) : slt x y := by
  rcases h with h | ⟨h, k⟩
  · exact .inl (by simpa using h)
  · rcases k with k | ⟨_, k⟩
    · omega
    · exact .inr ⟨by simpa using h, k⟩
theorem slt_nil {c : Nat} {x : List Nat} : slt [] (x ++ [c]) := .inl (by simp)
/-- the first of all words, said so -/
theorem First.le {wd : Nat} {act : List Nat → Nat} {t : Nat} {w v : List Nat} (h : First wd act t w) (hv : ∀ d ∈ v, d < wd) (e : act v = t) : w = v ∨ slt w v := by
  rcases h.least v hv e with z | ⟨z, rfl | k⟩
  · exact .inr (.inl z)
  · exact .inl rfl
  · exact .inr (.inr ⟨z, k⟩)
theorem first_of {wd : Nat} {act : List Nat → Nat} {t : Nat} {w : List Nat} (h1 : ∀ d ∈ w, d < wd) (h2 : act w = t) (h : ∀ v : List Nat, (∀ d ∈ v, d < wd) → act v = t → w = v ∨ slt w v) : First wd act t w :=
  ⟨h1, h2, fun v hv e => by
    rcases h v hv e with rfl | z | ⟨z, k⟩
    · exact .inr ⟨rfl, .inl rfl⟩
    · exact .inl z
    · exact .inr ⟨z, .inr k⟩⟩
/-- places in their order -/
def plt (a b : Nat × Nat) : Prop := a.1 < b.1 ∨ a.1 = b.1 ∧ a.2 < b.2
theorem plt_trans {a b c : Nat × Nat} (h : plt a b) (k : plt b c) : plt a c := by
  unfold plt at *
  omega
theorem madeRow_first {i : Nat} : ∀ {row : List Nat} {c : Nat} {m m' : List (Nat × Nat)}, madeRow i c row m = some m' → (∀ p ∈ m, plt p (i, c)) → m.Pairwise plt →
    (∀ p ∈ m', plt p (i, c + row.length)) ∧ m'.Pairwise plt ∧ ∀ (d t : Nat), row[d]? = some t → t = 0 ∨ ∃ p, m'[t - 1]? = some p ∧ (p = (i, c + d) ∨ plt p (i, c + d))
  | [], c, m, m', h, hm, pw => by
    simp only [madeRow, Option.some.injEq] at h
    subst h
    exact ⟨hm, pw, fun d t h => by simp at h⟩
  | t :: r, c, m, m', h, hm, pw => by
    simp only [madeRow] at h
    split at h
    · cases h
    · rename_i h1
      split at h
      · rename_i h2
        have up : ∀ p ∈ m ++ [(i, c)], plt p (i, c + 1) := fun p hp => by
          rcases List.mem_append.mp hp with hp | hp
          · have := hm p hp
            unfold plt at *
            omega
          · rw [List.mem_singleton.mp hp]
            exact .inr ⟨rfl, Nat.lt_succ_self c⟩
        obtain ⟨a1, a2, a3⟩ := madeRow_first h up (by
          rw [List.pairwise_append]
          exact ⟨pw, by simp, fun a ha b hb => by rw [List.mem_singleton.mp hb]; exact hm a ha⟩)
        obtain ⟨e, he, _⟩ := madeRow_ok h
        refine ⟨fun p hp => by rw [List.length_cons, show c + (r.length + 1) = c + 1 + r.length by omega]; exact a1 p hp, a2, fun d u hd => ?_⟩
        cases d with
        | zero =>
          cases hd
          refine .inr ⟨(i, c), ?_, .inl rfl⟩
          rw [he, h2, Nat.add_sub_cancel, List.getElem?_append_left (by simp), List.getElem?_append_right (Nat.le_refl _), Nat.sub_self]
          rfl
        | succ d =>
          rcases a3 d u (by simpa using hd) with z | ⟨p, hp, z⟩
          · exact .inl z
          · rw [show c + (d + 1) = c + 1 + d by omega]
            exact .inr ⟨p, hp, z⟩
      · rename_i h2
        have up : ∀ p ∈ m, plt p (i, c + 1) := fun p hp => by
          have := hm p hp
          unfold plt at *
          omega
        obtain ⟨a1, a2, a3⟩ := madeRow_first h up pw
        obtain ⟨e, he, _⟩ := madeRow_ok h
        refine ⟨fun p hp => by rw [List.length_cons, show c + (r.length + 1) = c + 1 + r.length by omega]; exact a1 p hp, a2, fun d u hd => ?_⟩
        cases d with
        | zero =>
          cases hd
          by_cases t0 : t = 0
          · exact .inl t0
          · have hl : t - 1 < m.length := by omega
            refine .inr ⟨m[t - 1], ?_, .inr (hm _ (List.getElem_mem hl))⟩
            rw [he, List.getElem?_append_left hl, List.getElem?_eq_getElem hl]
        | succ d =>
          rcases a3 d u (by simpa using hd) with z | ⟨p, hp, z⟩
          · exact .inl z
          · rw [show c + (d + 1) = c + 1 + d by omega]
            exact .inr ⟨p, hp, z⟩
theorem madeTab_first : ∀ {rows : List (List Nat)} {i : Nat} {m m' : List (Nat × Nat)}, madeTab i rows m = some m' → (∀ p ∈ m, p.1 < i) → m.Pairwise plt →
    m'.Pairwise plt ∧ ∀ (k d t : Nat) row, rows[k]? = some row → row[d]? = some t → t = 0 ∨ ∃ p, m'[t - 1]? = some p ∧ (p = (i + k, d) ∨ plt p (i + k, d))
  | [], i, m, m', h, hm, pw => by
    simp only [madeTab, Option.some.injEq] at h
    subst h
    exact ⟨pw, fun k d t row h => by simp at h⟩
  | row :: rest, i, m, m', h, hm, pw => by
    simp only [madeTab] at h
    split at h
    · cases h
    · cases hr : madeRow i 0 row m with
      | none => rw [hr] at h; cases h
      | some m1 =>
        rw [hr, Option.bind_some] at h
        obtain ⟨a1, a2, a3⟩ := madeRow_first hr (fun p hp => .inl (hm p hp)) pw
        obtain ⟨b1, b2⟩ := madeTab_first h (fun p hp => by
          have := a1 p hp
          unfold plt at this
          omega) a2
        obtain ⟨e, he, _⟩ := madeTab_ok h
        refine ⟨b1, fun k d t u hk hd => ?_⟩
        cases k with
        | zero =>
          cases hk
          rcases a3 d t hd with z | ⟨p, hp, z⟩
          · exact .inl z
          · refine .inr ⟨p, ?_, by simpa using z⟩
            rw [he, List.getElem?_append_left (get_lt' hp)]
            exact hp
        | succ k =>
          rcases b2 k d t u (by simpa using hk) hd with z | ⟨p, hp, z⟩
          · exact .inl z
          · rw [show i + (k + 1) = i + 1 + k by omega]
            exact .inr ⟨p, hp, z⟩
abbrev W (m : List (Nat × Nat)) (j : Nat) : List Nat := (wordTab m).getD j []
section
variable {rows : List (List Nat)} {m : List (Nat × Nat)} {wd : Nat}
theorem made_up (hm : madeTab 0 rows [] = some m) : ∀ (k : Nat) p, m[k]? = some p → p.1 < k + 1 := fun k p h => (madeTab_lt hm h).1
/-- words by their numbers come in order -/
theorem words_up (hm : madeTab 0 rows [] = some m) : ∀ (j i : Nat), i < j → j < m.length + 1 → slt (W m i) (W m j) := by
  intro j
  induction j using Nat.strongRecOn with
  | ind j ih =>
    intro i hi hj
    obtain ⟨j, rfl⟩ : ∃ k, j = k + 1 := ⟨j - 1, by omega⟩
    have lj : j < m.length := by omega
    obtain ⟨q, hq⟩ : ∃ q, m[j]? = some q := ⟨_, List.getElem?_eq_getElem lj⟩
    have eq := word_at (made_up hm) hq
    cases i with
    | zero =>
      show slt (W m 0) (W m (j + 1))
      unfold W
      rw [eq, word_0]
      exact slt_nil
    | succ i =>
      obtain ⟨p, hp⟩ : ∃ p, m[i]? = some p := ⟨_, List.getElem?_eq_getElem (by omega)⟩
      have ep := word_at (made_up hm) hp
      have pw := (madeTab_first hm (fun p hp => by cases hp) .nil).1
      obtain ⟨a1, a2⟩ := List.getElem?_eq_some_iff.mp hp
      obtain ⟨b1, b2⟩ := List.getElem?_eq_some_iff.mp hq
      have z := List.pairwise_iff_getElem.mp pw i j a1 b1 (by omega)
      rw [a2, b2] at z
      have qj := made_up hm j q hq
      unfold W
      rw [ep, eq]
      rcases z with z | ⟨z1, z2⟩
      · exact slt_app (ih q.1 qj p.1 z (by omega))
      · rw [z1]
        exact slt_snoc z2
/-- a word of a number is the first one that leads there -/
theorem word_le (hm : madeTab 0 rows [] = some m) (lm : m.length + 1 = rows.length) (f5 : ∀ row ∈ rows, row.length = wd ∧ ∀ t ∈ row, t < rows.length) (n1 : 0 < rows.length) : ∀ (n : Nat) (v : List Nat), v.length ≤ n → (∀ d ∈ v, d < wd) → walk rows 0 v < rows.length ∧ (W m (walk rows 0 v) = v ∨ slt (W m (walk rows 0 v)) v)
  | n, [], _, _ => ⟨n1, .inl (by show W m 0 = []; exact word_0)⟩
  | 0, _ :: _, h, _ => by simp at h
  | n + 1, a :: x, hl, hv => by
    obtain ⟨c, u, ev, hc, hu⟩ := wy_back.split (a :: x) (by simp) hv
    rw [ev] at hl hv ⊢
    obtain ⟨i1, i2⟩ := word_le hm lm f5 n1 n u (by simp at hl; omega) hu
    rw [walk_app]
    generalize walk rows 0 u = i at i1 i2 ⊢
    obtain ⟨row, hrow⟩ : ∃ r, rows[i]? = some r := ⟨_, List.getElem?_eq_getElem i1⟩
    obtain ⟨l1, l2⟩ := f5 row (List.mem_of_getElem? hrow)
    obtain ⟨t, ht⟩ : ∃ t, row[c]? = some t := ⟨_, List.getElem?_eq_getElem (by omega)⟩
    have et : walk rows i [c] = t := by
      show (rows.getD i []).getD c 0 = t
      rw [getD_of hrow, getD_of ht]
    rw [et]
    refine ⟨l2 t (List.mem_of_getElem? ht), ?_⟩
    by_cases h0 : t = 0
    · subst h0
      right
      show slt (W m 0) _
      unfold W
      rw [word_0]
      exact slt_nil
    · obtain ⟨p, hp, z⟩ := ((madeTab_first hm (fun p hp => by cases hp) .nil).2 i c t row hrow ht).resolve_left h0
      have t0 : t - 1 + 1 = t := by omega
      have ep := word_at (made_up hm) hp
      rw [t0] at ep
      unfold W at *
      rw [ep]
      rw [Nat.zero_add] at z
      rcases z with rfl | z | ⟨z1, z2⟩
      · rcases i2 with i2 | i2
        · exact .inl (by rw [i2])
        · exact .inr (slt_app i2)
      · have up := words_up hm i p.1 z (by omega)
        unfold W at up
        right
        rcases i2 with i2 | i2
        · rw [i2] at up
          exact slt_app up
        · exact slt_app (slt_trans up i2)
      · rw [z1]
        right
        rcases i2 with i2 | i2
        · rw [i2]
          exact slt_snoc z2
        · exact slt_app i2
theorem word_ok (hm : madeTab 0 rows [] = some m) (f5 : ∀ row ∈ rows, row.length = wd ∧ ∀ t ∈ row, t < rows.length) : ∀ (j : Nat), ∀ d ∈ W m j, d < wd := by
  intro j
  induction j using Nat.strongRecOn with
  | ind j ih =>
    cases j with
    | zero =>
      unfold W
      rw [word_0]
      intro d hd
      cases hd
    | succ j =>
      cases hp : m[j]? with
      | none =>
        have : (wordTab m)[j + 1]? = none := by
          rw [List.getElem?_eq_none_iff, word_len]
          have := List.getElem?_eq_none_iff.mp hp
          omega
        have e : W m (j + 1) = [] := by
          unfold W
          rw [List.getD_eq_getElem?_getD, this]
          rfl
        rw [e]
        intro d hd
        cases hd
      | some p =>
        have e : W m (j + 1) = W m p.1 ++ [p.2] := word_at (made_up hm) hp
        rw [e]
        intro d hd
        obtain ⟨a, row, h1, h2⟩ := madeTab_lt hm hp
        rcases List.mem_append.mp hd with hd | hd
        · exact ih p.1 (by omega) d hd
        · rw [List.mem_singleton.mp hd]
          have := (f5 row (List.mem_of_getElem? h1)).1
          have := get_lt' h2
          omega
theorem word_first (hm : madeTab 0 rows [] = some m) (lm : m.length + 1 = rows.length) (f5 : ∀ row ∈ rows, row.length = wd ∧ ∀ t ∈ row, t < rows.length) {j : Nat} (hj : j < rows.length) : First wd (walk rows 0) j (W m j) :=
  first_of (word_ok hm f5 j) (walk_word hm j j (Nat.le_refl _) (by omega)) fun v hv e => by
    have := (word_le hm lm f5 (by omega) v.length v (Nat.le_refl _) hv).2
    rw [e] at this
    exact this
theorem slt_cons' {x y : List Nat} {a : Nat} (h : slt x y) : slt (a :: x) (a :: y) := by
  rcases h with h | ⟨h, k⟩
  · exact .inl (by simpa using h)
  · exact .inr ⟨by simp [h], .inr ⟨rfl, k⟩⟩
theorem mem_W {j : Nat} (h : j < m.length + 1) : W m j ∈ wordTab m := by
  obtain ⟨x, hx⟩ : ∃ x, (wordTab m)[j]? = some x := ⟨_, List.getElem?_eq_getElem (by rw [word_len]; exact h)⟩
  unfold W
  rw [getD_of hx]
  exact List.mem_of_getElem? hx
theorem W_mem {u : List Nat} (h : u ∈ wordTab m) : ∃ j, j < m.length + 1 ∧ u = W m j := by
  obtain ⟨j, hj⟩ := List.getElem?_of_mem h
  refine ⟨j, by have := get_lt' hj; rwa [word_len] at this, ?_⟩
  unfold W
  rw [getD_of hj]
/-- a word is a number's own one exactly if it is the word of where it leads -/
theorem mem_word (hm : madeTab 0 rows [] = some m) (lm : m.length + 1 = rows.length) (f5 : ∀ row ∈ rows, row.length = wd ∧ ∀ t ∈ row, t < rows.length) {u : List Nat} (hu : ∀ d ∈ u, d < wd) : u ∈ wordTab m ↔ W m (walk rows 0 u) = u := by
  constructor
  · intro h
    obtain ⟨j, hj, rfl⟩ := W_mem h
    rw [walk_word hm j j (Nat.le_refl _) hj]
  · intro h
    rw [← h]
    exact mem_W (by rw [lm]; exact (word_le hm lm f5 (by omega) u.length u (Nat.le_refl _) hu).1)
theorem word_tail (hm : madeTab 0 rows [] = some m) (lm : m.length + 1 = rows.length) (f5 : ∀ row ∈ rows, row.length = wd ∧ ∀ t ∈ row, t < rows.length)
    (cg : ∀ (u v : List Nat) (i : Nat), (∀ d ∈ u, d < wd) → (∀ d ∈ v, d < wd) → i < rows.length → walk rows 0 u = walk rows 0 v → walk rows i u = walk rows i v) {a : Nat} {u : List Nat} (h : a :: u ∈ wordTab m) : u ∈ wordTab m := by
  obtain ⟨j, hj, ej⟩ := W_mem h
  have F := word_first hm lm f5 (show j < rows.length by omega)
  rw [← ej] at F
  have hu : ∀ d ∈ u, d < wd := fun d hd => F.ok d (List.mem_cons_of_mem _ hd)
  rw [mem_word hm lm f5 hu]
  obtain ⟨e1, e2⟩ := word_le hm lm f5 (by omega) u.length u (Nat.le_refl _) hu
  rcases e2 with e2 | e2
  · exact e2
  · exfalso
    have ha := F.ok a List.mem_cons_self
    have wu := word_ok hm f5 (walk rows 0 u)
    have i1 := (word_le hm lm f5 (by omega) 1 [a] (Nat.le_refl _) (fun d hd => by rw [List.mem_singleton.mp hd]; exact ha)).1
    have q := cg (W m (walk rows 0 u)) u (walk rows 0 [a]) wu hu i1 (walk_word hm _ _ (Nat.le_refl _) (by omega))
    have at' : walk rows 0 (a :: W m (walk rows 0 u)) = j := by
      rw [← F.at']
      exact q
    rcases F.le (fun d hd => by
      rcases List.mem_cons.mp hd with rfl | hd
      · exact ha
      · exact wu d hd) at' with z | z
    · injection z with _ z
      rw [← z] at e2
      exact slt_irr e2
    · exact slt_irr (slt_trans e2 (slt_cons z))
theorem word_init (hm : madeTab 0 rows [] = some m) {u : List Nat} {c : Nat} (h : u ++ [c] ∈ wordTab m) : ∃ p, m[walk rows 0 (u ++ [c]) - 1]? = some (p, c) ∧ u = W m p ∧ p < m.length ∧ 0 < walk rows 0 (u ++ [c]) := by
  obtain ⟨j, hj, ej⟩ := W_mem h
  have ew := walk_word hm j j (Nat.le_refl _) hj
  cases j with
  | zero =>
    unfold W at ej
    rw [word_0] at ej
    simp at ej
  | succ k =>
    obtain ⟨p, hp⟩ : ∃ p, m[k]? = some p := ⟨_, List.getElem?_eq_getElem (by omega)⟩
    have e : W m (k + 1) = W m p.1 ++ [p.2] := word_at (made_up hm) hp
    rw [e] at ej
    have e1 := List.append_inj' ej rfl
    have e2 : c = p.2 := by simpa using e1.2
    have ej' : u ++ [c] = W m (k + 1) := by rw [e, e1.1, e2]
    rw [ej']
    have ew' : walk rows 0 (W m (k + 1)) = k + 1 := ew
    rw [ew', Nat.add_sub_cancel]
    have := made_up hm k p hp
    exact ⟨p.1, by rw [hp, e2], e1.1, by omega, by omega⟩
theorem word_pre (hm : madeTab 0 rows [] = some m) {u : List Nat} {c : Nat} (h : u ++ [c] ∈ wordTab m) : u ∈ wordTab m := by
  obtain ⟨p, _, rfl, l, _⟩ := word_init hm h
  exact mem_W (by omega)
theorem W_inj (hm : madeTab 0 rows [] = some m) {i j : Nat} (hi : i < m.length + 1) (hj : j < m.length + 1) (h : W m i = W m j) : i = j := by
  have a := walk_word hm i i (Nat.le_refl _) hi
  have b := walk_word hm j j (Nat.le_refl _) hj
  unfold W at h
  rw [h] at a
  omega
/-- what the program asks: the number met first by a number and a letter -/
theorem is_word (hm : madeTab 0 rows [] = some m) (lm : m.length + 1 = rows.length) (f5 : ∀ row ∈ rows, row.length = wd ∧ ∀ t ∈ row, t < rows.length) {i c t : Nat} {row : List Nat} (hrow : rows[i]? = some row) (ht : row[c]? = some t) :
    W m i ++ [c] ∈ wordTab m ↔ t ≠ 0 ∧ m[t - 1]? = some (i, c) := by
  have il := get_lt' hrow
  have ew := walk_word hm i i (Nat.le_refl _) (by omega)
  have et : walk rows 0 (W m i ++ [c]) = t := by
    rw [walk_app]
    unfold W
    rw [ew]
    show (rows.getD i []).getD c 0 = t
    rw [getD_of hrow, getD_of ht]
  constructor
  · intro h
    obtain ⟨p, h1, h2, h3, h4⟩ := word_init hm h
    rw [et] at h1 h4
    have := W_inj hm (by omega) (by omega) h2
    subst this
    exact ⟨by omega, h1⟩
  · rintro ⟨t0, h⟩
    have e : W m (t - 1 + 1) = W m i ++ [c] := word_at (made_up hm) h
    rw [← e]
    have := get_lt' h
    exact mem_W (by omega)
theorem word_drop (hm : madeTab 0 rows [] = some m) (lm : m.length + 1 = rows.length) (f5 : ∀ row ∈ rows, row.length = wd ∧ ∀ t ∈ row, t < rows.length)
    (cg : ∀ (u v : List Nat) (i : Nat), (∀ d ∈ u, d < wd) → (∀ d ∈ v, d < wd) → i < rows.length → walk rows 0 u = walk rows 0 v → walk rows i u = walk rows i v) : ∀ (k : Nat) (u : List Nat), u ∈ wordTab m → u.drop k ∈ wordTab m
  | 0, u, h => h
  | k + 1, [], h => h
  | k + 1, a :: u, h => word_drop hm lm f5 cg k u (word_tail hm lm f5 cg h)
theorem word_takeR (hm : madeTab 0 rows [] = some m) : ∀ (k : Nat) (u : List Nat), u ∈ wordTab m → u.take (u.length - k) ∈ wordTab m
  | 0, u, h => by rw [Nat.sub_zero, List.take_length]; exact h
  | k + 1, u, h => by
    have ih := word_takeR hm k u h
    by_cases l : u.length ≤ k
    · rw [show u.length - (k + 1) = u.length - k by omega]
      exact ih
    · obtain ⟨x, hx⟩ : ∃ x, u[u.length - (k + 1)]? = some x := ⟨_, List.getElem?_eq_getElem (by omega)⟩
      rw [show u.length - k = u.length - (k + 1) + 1 by omega, take_succ' hx] at ih
      exact word_pre hm ih
theorem word_take' (hm : madeTab 0 rows [] = some m) (k : Nat) (u : List Nat) (h : u ∈ wordTab m) : u.take k ∈ wordTab m := by
  by_cases l : k ≤ u.length
  · have := word_takeR hm (u.length - k) u h
    rwa [show u.length - (u.length - k) = k by omega] at this
  · rw [List.take_of_length_le (by omega)]
    exact h
end
end Mon

set_option Elab.async false
set_option linter.all false
set_option maxRecDepth 100000
set_option maxHeartbeats 2000000
/-! Tuples of numbers, and rows of them, as data: equal, in, index. -/
namespace Lf
open PySem PySem.Spec PyProof.Rows L2
def dN (i : Nat) : PyData := .int ((i : Nat) : Int)
def dI (x : List Nat) : PyData := .tuple (x.map dN)
theorem all_lay {k : Nat} : ∀ {ds : List PyData}, (∀ d ∈ ds, d.canLay0 = true ∧ d.depth ≤ k) → PyData.canLayAll0 ds = true ∧ PyData.depthAll ds ≤ k
  | [], _ => by simp [PyData.canLayAll0, PyData.depthAll]
  | d :: ds, h => by
    obtain ⟨a, b⟩ := all_lay fun e he => h e (List.mem_cons_of_mem _ he)
    obtain ⟨c, e⟩ := h d List.mem_cons_self
    refine ⟨by simp [PyData.canLayAll0, a, c], ?_⟩
    rw [PyData.depthAll]
    omega
theorem tup_lay {k : Nat} {ds : List PyData} (h : ∀ d ∈ ds, d.canLay0 = true ∧ d.depth ≤ k) : (PyData.tuple ds).canLay0 = true ∧ (PyData.tuple ds).depth ≤ k + 1 := by
  obtain ⟨a, b⟩ := all_lay h
  refine ⟨by rw [PyData.canLay0]; exact a, ?_⟩
  rw [PyData.depth]
  omega
theorem lst_lay {k : Nat} {ds : List PyData} (h : ∀ d ∈ ds, d.canLay0 = true ∧ d.depth ≤ k) : (PyData.list ds).canLay0 = true ∧ (PyData.list ds).depth ≤ k + 1 := by
  obtain ⟨a, b⟩ := all_lay h
  refine ⟨by rw [PyData.canLay0]; exact a, ?_⟩
  rw [PyData.depth]
  omega
theorem sh_lay {d : PyData} {k : Nat} (h : d.canLay0 = true ∧ d.depth ≤ k) (hk : k ≤ 64) : SeqAt.shaped d = true := by
  unfold SeqAt.shaped
  rw [h.1, decide_eq_true (by omega)]
  rfl
theorem dN_lay (i : Nat) : (dN i).canLay0 = true ∧ (dN i).depth ≤ 0 := by simp [dN, PyData.canLay0, PyData.depth]
theorem dI_lay (x : List Nat) : (dI x).canLay0 = true ∧ (dI x).depth ≤ 0 + 1 := tup_lay fun d hd => by
  obtain ⟨i, _, rfl⟩ := List.mem_map.mp hd
  exact dN_lay i
theorem dI_sh (x : List Nat) : SeqAt.shaped (dI x) = true := sh_lay (dI_lay x) (by decide)
theorem rows_sh (l : List (List Nat)) : SeqAt.shaped (.list (l.map dI)) = true := sh_lay (lst_lay fun d hd => by
  obtain ⟨i, _, rfl⟩ := List.mem_map.mp hd
  exact dI_lay i) (by decide)
theorem trows_sh (l : List (List Nat)) : SeqAt.shaped (.tuple (l.map dI)) = true := sh_lay (tup_lay fun d hd => by
  obtain ⟨i, _, rfl⟩ := List.mem_map.mp hd
  exact dI_lay i) (by decide)
theorem ints_sh (l : List Nat) : SeqAt.shaped (.list (l.map dN)) = true := sh_lay (lst_lay fun d hd => by
  obtain ⟨i, _, rfl⟩ := List.mem_map.mp hd
  exact dN_lay i) (by decide)
theorem dI_eqv (x y : List Nat) : PyData.eqv (dI x) (dI y) = decide (x = y) := by
  have e : ∀ l : List Nat, l.map dN = (l.map fun i => ((i : Nat) : Int)).map PyData.int := fun l => by rw [List.map_map]; rfl
  unfold dI
  rw [PyData.eqv, e, e, PySem.W.ked_eqvAll]
  refine decide_eq_decide.mpr ⟨fun h => ?_, fun h => by rw [h]⟩
  exact List.map_inj_right (fun a b h => by omega) |>.mp h
section
variable {K : PySem.W.Frag} {H : Hp}
theorem dpN : ∀ {x : List Nat}, DpAll K H (x.map fun i => V.int (i : Nat)) (x.map dN)
  | [] => .nil
  | i :: x => .cons (.int _) dpN
theorem dpI {a : Addr} {x : List Nat} (h : SqT K H a (x.map fun i => V.int (i : Nat))) : Dp K H (.ref a) (dI x) := .tup h dpN
theorem dpR : ∀ {as : List Addr} {rows : List (List Nat)}, as.length = rows.length → (∀ (j : Nat) a x, as[j]? = some a → rows[j]? = some x → SqT K H a (x.map fun i => V.int (i : Nat))) → DpAll K H (as.map V.ref) (rows.map dI)
  | [], [], _, _ => .nil
  | a :: as, x :: rows, l, h => .cons (dpI (h 0 a x rfl rfl)) (dpR (by simpa using l) fun j b y h1 h2 => h (j + 1) b y h1 h2)
theorem any_dI {l : List (List Nat)} {x : List Nat} : ((l.map dI).any fun z => PyData.eqv z (dI x)) = decide (x ∈ l) := by
  rw [List.any_map]
  by_cases h : x ∈ l
  · rw [decide_eq_true h, List.any_eq_true]
    exact ⟨x, h, by show PyData.eqv (dI x) (dI x) = true; rw [dI_eqv]; simp⟩
  · rw [decide_eq_false h, List.any_eq_false]
    intro y hy e
    have : PyData.eqv (dI y) (dI x) = true := e
    rw [dI_eqv] at this
    exact h (of_decide_eq_true this ▸ hy)
/-- for l.index(x): x stands at j and nowhere else -/
theorem index_pre {l : List (List Nat)} {x : List Nat} {j : Nat} (nd : l.Nodup) (hj : l[j]? = some x) : (l.map dI)[j]? = some (dI x) ∧ PyData.eqv (dI x) (dI x) = true ∧ ∀ (k : Nat) z, k < j → (l.map dI)[k]? = some z → PyData.eqv z (dI x) = false := by
  refine ⟨by rw [List.getElem?_map, hj]; rfl, by rw [dI_eqv]; simp, fun k z kj hz => ?_⟩
  rw [List.getElem?_map] at hz
  obtain ⟨y, hy, rfl⟩ := Option.map_eq_some_iff.mp hz
  rw [dI_eqv]
  refine decide_eq_false fun e => ?_
  subst e
  have := (List.getElem?_inj (List.getElem?_eq_some_iff.mp hy).1 nd).mp (hy.trans hj.symm)
  omega
theorem in_dI {p c : Addr} {l : List (List Nat)} {x : List Nat} {Q : VK} (hl : Dp K H (.ref p) (.list (l.map dI))) (hx : Dp K H (.ref c) (dI x)) (q : Q (.bl (decide (x ∈ l))) H) : rInD K (.ref c) (.ref p) H Q :=
  ⟨dI x, l.map dI, hx, hl, dI_sh x, rows_sh l, by rw [any_dI]; exact q⟩
theorem ne_dI {a b : V} {d : PyData} {Q : VK} (ha : Dp K H a d) (hb : Dp K H b d) (sh : SeqAt.shaped d = true) (q : Q (.bl false) H) : rNeD K a b H Q :=
  ⟨d, d, ha, hb, sh, sh, by rw [SeqAt.eqv_refl _ (SeqAt.canLay_of_shaped sh)]; exact q⟩
theorem eq_dI {a b : V} {d : PyData} {Q : VK} (ha : Dp K H a d) (hb : Dp K H b d) (sh : SeqAt.shaped d = true) (q : Q (.bl true) H) : rEqD K a b H Q :=
  ⟨d, d, ha, hb, sh, sh, by rw [SeqAt.eqv_refl _ (SeqAt.canLay_of_shaped sh)]; exact q⟩
end
end Lf

set_option Elab.async false
set_option linter.all false
set_option maxRecDepth 100000
set_option maxHeartbeats 4000000
/-! Small things that many texts want. -/
namespace Lf
open PySem PySem.Spec PyProof.Rows L2
theorem yesT {σ : L2.St} {H : Hp} {A B : Hp → Prop} (h : A H) : tYes σ H fun b H3 => if b = true then A H3 else B H3 := by
  show if true = true then A H else B H
  rw [if_pos rfl]
  exact h
theorem pe_gstr {X : Cx} {x v : Str} {t : Tok} {pos : Pos} (hg : Gl X x) (hm : X.mg x = some (.str v t)) (hd : (x == ("__debug__" : Str)) = false := by decide +kernel) : PE X (.Name x pos) (tC (.str v)) := pe_glob hg hm ⟨t, rfl⟩ hd
theorem map_get {α β : Type} {f : α → β} {l : List α} {i : Nat} {y : β} (h : (l.map f)[i]? = some y) : ∃ a, l[i]? = some a ∧ y = f a := by
  rw [List.getElem?_map] at h
  cases z : l[i]? with
  | none => rw [z] at h; cases h
  | some a => rw [z] at h; exact ⟨a, rfl, (Option.some.inj h).symm⟩
theorem get_map {α β : Type} {f : α → β} {l : List α} {i : Nat} {a : α} (h : l[i]? = some a) : (l.map f)[i]? = some (f a) := by rw [List.getElem?_map, h]; rfl
theorem get_lt {α : Type} {l : List α} {i : Nat} {a : α} (h : l[i]? = some a) : i < l.length := (List.getElem?_eq_some_iff.mp h).1
theorem lt_get {α : Type} {l : List α} {i : Nat} (h : i < l.length) : ∃ a, l[i]? = some a := ⟨_, List.getElem?_eq_getElem h⟩
theorem nil_of {H H' : Hp} {p : Addr} (s : Same H H') (n : H' p = none) : H p = none := by
  cases e : H p with
  | none => rfl
  | some o => rw [s _ _ e] at n; cases n
theorem But.nil {H H' : Hp} {l p : Addr} (s : But l H H') (np : p ≠ l) (n : H' p = none) : H p = none := by
  cases e : H p with
  | none => rfl
  | some o => rw [s _ _ np e] at n; cases n
theorem tyx_same {K : PySem.W.Frag} {H H' : Hp} {x : V} {t : Value} (e : Same H H') (h : TyX K H x t) : TyX K H' x t := by
  cases h with
  | base b =>
    cases b with
    | non => exact .base .non
    | bl b => exact .base (.bl b)
    | int i => exact .base (.int i)
    | str s => exact .base (.str s)
    | flt f => exact .base (.flt f)
    | lst h => exact .base (.lst (e _ _ h))
    | frz h => exact .base (.frz (e _ _ h))
    | tup h => exact .base (.tup (e _ _ h))
    | dK h => exact .base (.dK (e _ _ h))
    | dT h => exact .base (.dT (e _ _ h))
    | ins h a b c d f => exact .base (.ins (e _ _ h) a b c d f)
  | byt b => exact .byt b
  | set h => exact .set (e _ _ h)
  | kList h c => exact .kList h c
  | kTuple h c => exact .kTuple h c
  | kDict h c => exact .kDict h c
  | fTuple h => exact .fTuple (e _ _ h)
  | fDict h => exact .fDict (e _ _ h)
/-- a number, or what is none -/
inductive NumK (K : PySem.W.Frag) (H : Hp) : V → Option Int → Prop
  | int (i : Int) : NumK K H (.int i) (some i)
  | bl (b : Bool) : NumK K H (.bl b) none
  | oth {x : V} {n : String} (ty : TyX K H x (.type n)) (e : kitB n "int" = some false) : NumK K H x none
theorem NumK.same {K : PySem.W.Frag} {H H' : Hp} {x : V} {o : Option Int} (e : Same H H') (h : NumK K H x o) : NumK K H' x o := by
  cases h with
  | int i => exact .int i
  | bl b => exact .bl b
  | oth t q => exact .oth (tyx_same e t) q
/-- a text, or what is none -/
inductive TxtK (K : PySem.W.Frag) (H : Hp) : V → Option Str → Prop
  | str (z : Str) : TxtK K H (.str z) (some z)
  | oth {x : V} {n : String} (ty : TyX K H x (.type n)) (e : kitB n "str" = some false) : TxtK K H x none
theorem TxtK.same {K : PySem.W.Frag} {H H' : Hp} {x : V} {o : Option Str} (e : Same H H') (h : TxtK K H x o) : TxtK K H' x o := by
  cases h with
  | str i => exact .str i
  | oth t q => exact .oth (tyx_same e t) q
def isTx : Option Str → Bool
  | some _ => true
  | none => false
theorem TxtK.ty {K : PySem.W.Frag} {H : Hp} {x : V} {o : Option Str} (h : TxtK K H x o) : ∃ n, TyX K H x (.type n) ∧ PySem.W.kitOne K (.type n) (.type "str") = some (isTx o) := by
  cases h with
  | str z => exact ⟨_, .base (.str z), kit_ty (show kitB "str" "str" = some true by decide +kernel)⟩
  | oth t q => exact ⟨_, t, kit_ty q⟩
end Lf

set_option Elab.async false
set_option linter.all false
set_option maxRecDepth 100000
set_option maxHeartbeats 8000000
namespace K18
open PySem PySem.Spec PyProof.Rows L2 Lf
/-- for each number that of its word without the first letter -/
def restStep (rows : List (List Nat)) (r : List Nat) (p : Nat × Nat) : List Nat := r ++ [if p.1 = 0 then 0 else Mon.stp rows (r.getD p.1 0) p.2]
def restTab (rows : List (List Nat)) (m : List (Nat × Nat)) : List Nat := m.foldl (restStep rows) [0]
theorem rest_snoc {rows : List (List Nat)} {m : List (Nat × Nat)} {p : Nat × Nat} : restTab rows (m ++ [p]) = restStep rows (restTab rows m) p := by
  unfold restTab
  rw [List.foldl_append]
  rfl
theorem rest_lenF {rows : List (List Nat)} : ∀ {m : List (Nat × Nat)} {r : List Nat}, (m.foldl (restStep rows) r).length = r.length + m.length
  | [], r => rfl
  | p :: m, r => by
    rw [List.foldl_cons, rest_lenF, restStep, List.length_append, List.length_cons]
    simp
    omega
theorem rest_len {rows : List (List Nat)} {m : List (Nat × Nat)} : (restTab rows m).length = m.length + 1 := by
  unfold restTab
  rw [rest_lenF]
  simp
  omega
theorem stp_lt {rows : List (List Nat)} {wd i c : Nat} (FO : Form rows wd) (hi : i < rows.length) (hc : c < wd) : Mon.stp rows i c < rows.length := by
  obtain ⟨row, hrow⟩ := lt_get hi
  obtain ⟨l1, l2⟩ := FO.2.2.2.2 row (List.mem_of_getElem? hrow)
  obtain ⟨t, ht⟩ := lt_get (show c < row.length by omega)
  unfold Mon.stp
  rw [Mon.getD_of hrow, Mon.getD_of ht]
  exact l2 t (List.mem_of_getElem? ht)
/-- whether the word of a number with a letter behind it is a number's own word -/
def isw (rows : List (List Nat)) (m : List (Nat × Nat)) (i c : Nat) : Bool := decide (Mon.stp rows i c ≠ 0 ∧ m[Mon.stp rows i c - 1]? = some (i, c))
def ruleAt (rows : List (List Nat)) (m : List (Nat × Nat)) (i c : Nat) : List (List Nat × List Nat) :=
  if isw rows m i c = true then [] else if i = 0 ∨ isw rows m ((restTab rows m).getD i 0) c = true then [((Mon.W m i) ++ [c], Mon.W m (Mon.stp rows i c))] else []
def rulesP (rows : List (List Nat)) (m : List (Nat × Nat)) (wd : Nat) : List (List Nat × List Nat) := (List.range rows.length).flatMap fun i => (List.range wd).flatMap (ruleAt rows m i)
/-- pairs of words, as they lie -/
structure Prw (H : Hp) (D : Addr) (prs : List Addr) (qs : List (List Nat × List Nat)) : Prop where
  at' : H D = some (.lst (prs.map V.ref))
  len : prs.length = qs.length
  el : ∀ (j : Nat) a q, prs[j]? = some a → qs[j]? = some q → H a = some (.tup [wv q.1, wv q.2])
theorem Prw.ext {H H' : Hp} {D : Addr} {prs : List Addr} {qs : List (List Nat × List Nat)} (h : Prw H D prs qs) (e : LamX.ExtN H H') : Prw H' D prs qs :=
  ⟨e _ _ h.at' (fun ps z => by cases z), h.len, fun j a q h1 h2 => e _ _ (h.el j a q h1 h2) (fun ps z => by cases z)⟩
theorem Prw.same {H H' : Hp} {D : Addr} {prs : List Addr} {qs : List (List Nat × List Nat)} (h : Prw H D prs qs) (e : Same H H') : Prw H' D prs qs := h.ext (LamX.ExtN.of e)
theorem Prw.nil {H : Hp} {D : Addr} (h : H D = some (.lst [])) : Prw H D [] [] := ⟨h, rfl, fun j a q h => by simp at h⟩
theorem Prw.add {H : Hp} {D t : Addr} {ps : List Addr} {qs : List (List Nat × List Nat)} {q : List Nat × List Nat} (h : Prw H D ps qs) (ht : H t = some (.tup [wv q.1, wv q.2])) : Prw (L2.upd H D (.lst (ps.map V.ref ++ [.ref t]))) D (ps ++ [t]) (qs ++ [q]) := by
  refine ⟨by rw [upd_same]; simp, by simp [h.len], fun j a r h1 h2 => ?_⟩
  have f : H a = some (.tup [wv r.1, wv r.2]) := by
    rcases Mon.snoc_cases h1 with h1 | ⟨e1, rfl⟩
    · rcases Mon.snoc_cases h2 with h2 | ⟨e2, rfl⟩
      · exact h.el j a r h1 h2
      · have := get_lt h1
        have := h.len
        omega
    · rcases Mon.snoc_cases h2 with h2 | ⟨_, rfl⟩
      · have := get_lt h2
        have := h.len
        omega
      · exact ht
  rw [upd_ne (fun z => by rw [z, h.at'] at f; cases f)]
  exact f
end K18

set_option Elab.async false
set_option linter.all false
set_option maxRecDepth 100000
set_option maxHeartbeats 8000000
namespace K18
open PySem PySem.Spec PyProof.Rows L2 Lf
def spRests (K : PySem.W.Frag) : Sp := fun vs H Q _ => ∃ r u rows m wd, vs = [.ref r, .ref u] ∧ RowsT K H r rows ∧ MadeT K H u m ∧ Form rows wd ∧ Mon.madeTab 0 rows [] = some m ∧ m.length + 1 = rows.length ∧ ∀ l H', Same H H' → H l = none → H' l = some (.lst ((restTab rows m).map nv)) → Q (.ref l) H'
def spIsW (K : PySem.W.Frag) : Sp := fun vs H Q _ => ∃ p rows m wd i c, vs = [.ref p, .int (i : Nat), .int (c : Nat)] ∧ Mo K H p rows m ∧ Form rows wd ∧ m.length + 1 = rows.length ∧ i < rows.length ∧ c < wd ∧ ∀ H', Same H H' → Q (.bl (isw rows m i c)) H'
theorem rest_lt {rows : List (List Nat)} {m : List (Nat × Nat)} {wd : Nat} (FO : Form rows wd) (hm : Mon.madeTab 0 rows [] = some m) : ∀ (k : Nat), k ≤ m.length → ∀ x ∈ restTab rows (m.take k), x < rows.length
  | 0, _, x, hx => by
    rw [List.take_zero] at hx
    rw [List.mem_singleton.mp (show x ∈ [0] from hx)]
    exact FO.1
  | k + 1, hk, x, hx => by
    obtain ⟨p, hp⟩ := lt_get (show k < m.length by omega)
    obtain ⟨a, row, h1, h2⟩ := Mon.madeTab_lt hm hp
    have ih := rest_lt FO hm k (by omega)
    rw [take_snoc hp, rest_snoc] at hx
    rcases List.mem_append.mp hx with hx | hx
    · exact ih x hx
    · rw [List.mem_singleton.mp hx]
      split
      · exact FO.1
      · obtain ⟨y, hy⟩ := lt_get (show p.1 < (restTab rows (m.take k)).length by rw [rest_len, List.length_take]; omega)
        rw [Mon.getD_of hy]
        have c2 := (FO.2.2.2.2 row (List.mem_of_getElem? h1)).1
        have := get_lt h2
        exact stp_lt FO (ih y (List.mem_of_getElem? hy)) (by omega)
section
variable {P : Program} {w : World} {K : PySem.W.Frag} {mg : Str → Option Value} {base : Heap}
theorem scRests : FnScope ["right", "made", "rests", "before", "letter"] ["right", "made"] (defScope s_rests) := ⟨rfl, rfl, rfl, by decide +kernel, rfl, by decide +kernel, by decide +kernel⟩
theorem ok_rests {f : Addr} {fd : FuncData} {q : Str} (F : FunD K "_rests" q (defArgs s_rests) (defBody s_rests) (defScope s_rests) [] [] f fd) :
    FnOk P w K mg base CX0 1 f fd ["right", "made"] (spRests K) := by
  refine F.ok scRests (fun vs H Q E h => ?_) (fun cdv A outer s H vs Q E hr h => ?_)
  · obtain ⟨r, u, rows, m, wd, rfl, _⟩ := h
    rfl
  · obtain ⟨r, u, rows, m, wd, rfl, R, MM, FO, hm, lm, k⟩ := h
    refine ⟨_, PSs.nox (pss_cons (ps_set (i := 2) scRests.nd rfl (.inl rfl) (pe_lst (pa_cons pe_int pa_nil)))
      (pss_cons (ps_for PassesOwn.never rfl (pi_tup (pe_slice sl_tup (pv 1) (po_some pe_int) po_none)) (pg_tup rfl (pgs_cons (pg_name (i := 3) scRests.nd rfl (.inl rfl)) (pgs_cons (pg_name (i := 4) scRests.nd rfl (.inl rfl)) pgs_nil)))
        (pss_one (ps_expr (pe_bm PySem.F.plainAttrs_list PySem.F.slot_list_append PySem.F.type_list_append mt_append (pv 2) (pa_cons (pe_ifExp (pt_cmpR op_eq (pv 3) pe_int (nomark _)) pe_int (pe_ix ix_tup (pe_ix ix_tup (pv 0) (pe_ix ix_list (pv 2) (pv 3) (fun _ _ => rfl)) (fun _ _ => rfl)) (pv 4) (fun _ _ => rfl))) pa_nil)))))
      (pss_one (ps_ret (pv 2))))), ?_⟩
    obtain ⟨as, sr, la, srow⟩ := R.ex
    obtain ⟨ps, sm, lp, sp⟩ := MM.ex
    have n2 := FO.2.1
    refine ⟨(by show 1 ≤ sizeLine; decide), fun B nB => ?_⟩
    have nB0 := nB
    have s1 := same_upd (o := .lst [V.int 0]) nB
    have hB1 : L2.upd H B (.lst [V.int 0]) B = some (.lst ((restTab rows (m.take 0)).map nv)) := upd_same
    generalize L2.upd H B (.lst [V.int 0]) = H1 at s1 hB1 ⊢
    refine ⟨_, rfl, 1, rfl, u, _, rfl, Lf.SqT.same s1 sm, ?_, fun S nS => ⟨S, rfl, ⟨_, SqT.of upd_same⟩, ?_⟩⟩
    · rw [List.length_cons, sIx1]
      rintro ⟨z, _⟩
      exact absurd z (by decide)
    rw [cut1]
    have u2 := same_upd (o := .tup (ps.map V.ref)) nS
    have hS : L2.upd H1 S (.tup (ps.map V.ref)) S = some (.tup (ps.map V.ref)) := upd_same
    have s2 := s1.trans u2
    have hB2 := u2 _ _ hB1
    have nSB : S ≠ B := fun z => by rw [z, hB1] at nS; cases nS
    generalize L2.upd H1 S (.tup (ps.map V.ref)) = H2 at s2 hS hB2 ⊢
    clear u2 s1 hB1 nS
    refine for_tup (K := K) (a := S) (xs := ps.map V.ref) (fun i σ Hn => ∃ v3 v4 : Option V, σ = [some (.ref r), some (.ref u), some (.ref B), v3, v4] ∧ Same H Hn ∧ Hn S = some (.tup (ps.map V.ref)) ∧ Hn B = some (.lst ((restTab rows (m.take i)).map nv)))
      ⟨none, none, rfl, s2, hS, hB2⟩ (fun i σ Hn _ ⟨_, _, _, _, h, _⟩ => SqT.of h) (fun i x σ Hn hx ⟨v3, v4, eσ, sn, hSn, hBn⟩ => ?_) (fun σ Hn ⟨v3, v4, eσ, sn, hSn, hBn⟩ => ?_)
    · subst eσ
      obtain ⟨pa, hpa, rfl⟩ := map_get hx
      obtain ⟨pr, hpr⟩ := lt_get (show i < m.length by have := get_lt hpa; omega)
      have il := get_lt hpr
      obtain ⟨b1, row0, b2, b3⟩ := Mon.madeTab_lt hm hpr
      have lL : (restTab rows (m.take i)).length = i + 1 := by rw [rest_len, List.length_take]; omega
      have eL : restTab rows (m.take (i + 1)) = restTab rows (m.take i) ++ [if pr.1 = 0 then 0 else Mon.stp rows ((restTab rows (m.take i)).getD pr.1 0) pr.2] := by
        rw [take_snoc hpr, rest_snoc]
        rfl
      have fin : ∀ z : Nat, (if pr.1 = 0 then 0 else Mon.stp rows ((restTab rows (m.take i)).getD pr.1 0) pr.2) = z → ∃ v3 v4 : Option V, [some (.ref r), some (.ref u), some (.ref B), some (nv pr.1), some (nv pr.2)] = [some (V.ref r), some (.ref u), some (.ref B), v3, v4] ∧ Same H (L2.upd Hn B (.lst ((restTab rows (m.take i)).map nv ++ [nv z]))) ∧ L2.upd Hn B (.lst ((restTab rows (m.take i)).map nv ++ [nv z])) S = some (.tup (ps.map V.ref)) ∧ L2.upd Hn B (.lst ((restTab rows (m.take i)).map nv ++ [nv z])) B = some (.lst ((restTab rows (m.take (i + 1))).map nv)) := fun z ez => by
        refine ⟨_, _, rfl, fun b o e => ?_, ?_, ?_⟩
        · rw [upd_ne (ne_of_none e nB0)]
          exact sn b o e
        · rw [upd_ne nSB]
          exact hSn
        · rw [upd_same, eL, ez, List.map_append]
          rfl
      have len16 : ((restTab rows (m.take i)).map nv).length < sizeLine := by
        rw [List.length_map, lL]
        show i + 1 < 16777216
        omega
      refine ⟨pa, _, rfl, Lf.SqT.same sn (sp i pa pr hpa hpr), rfl, _, _, rfl, _, _, rfl, rfl, ?_⟩
      refine ⟨_, rfl, .inl ⟨rfl, _, SqL.of hBn⟩, ?_⟩
      refine ⟨_, rfl, rfl, _, rfl, ?_⟩
      by_cases h0 : pr.1 = 0
      · refine ifT (by rw [h0]; rfl) ?_
        exact ⟨B, _, _, rfl, rfl, hBn, len16, fin 0 (if_pos h0)⟩
      · refine ifF (decide_eq_false (fun z => h0 (by injection z with z; omega))) ?_
        obtain ⟨y, hy⟩ := lt_get (show pr.1 < (restTab rows (m.take i)).length by omega)
        have yl := rest_lt FO hm i (by omega) y (List.mem_of_getElem? hy)
        obtain ⟨ay, hay⟩ := lt_get (show y < as.length by omega)
        obtain ⟨ry, hry⟩ := lt_get yl
        have c2 := (FO.2.2.2.2 row0 (List.mem_of_getElem? b2)).1
        have c3 := (FO.2.2.2.2 ry (List.mem_of_getElem? hry)).1
        have c4 := get_lt b3
        obtain ⟨t, ht⟩ := lt_get (show pr.2 < ry.length by omega)
        have et : Mon.stp rows y pr.2 = t := by
          unfold Mon.stp
          rw [Mon.getD_of hry, Mon.getD_of ht]
        refine ⟨_, rfl, _, rfl, _, rfl, B, _, _, nv y, rfl, rfl, SqL.of hBn, atI_nat (get_map hy), r, as.map V.ref, _, .ref ay, rfl, rfl, Lf.SqT.same sn sr, atI_nat (get_map hay), _, rfl, ay, ry.map nv, _, nv t, rfl, rfl, Lf.SqT.same sn (srow y ay ry hay hry), atI_nat (get_map ht), ?_⟩
        exact ⟨B, _, _, rfl, rfl, hBn, len16, fin t (by rw [if_neg h0, Mon.getD_of hy, et])⟩
    · subst eσ
      rw [List.length_map, lp, List.take_length] at hBn
      exact ⟨_, rfl, k B Hn sn nB0 hBn⟩
theorem scIsW : FnScope ["self", "number", "letter"] ["self", "number", "letter"] (defScope s_Monoid_is_word_of) := ⟨rfl, rfl, rfl, by decide +kernel, rfl, by decide +kernel, by decide +kernel⟩
theorem ok_isw {f : Addr} {fd : FuncData} {q : Str} (F : FunD K "_is_word_of" q (defArgs s_Monoid_is_word_of) (defBody s_Monoid_is_word_of) (defScope s_Monoid_is_word_of) [] [] f fd) (T : Txt P w K mg base) :
    FnOk P w K mg base CX0 1 f fd ["self", "number", "letter"] (spIsW K) := by
  have cl : L2.Cls K (He.ga K "Monoid") := He.cls_ok (T.d.fact 41 (f := .cls "Monoid") rfl)
  have n1 : NoAttr K (He.ga K "Monoid") "right" := He.noat_ok (T.d.fact 51 (f := .noat "Monoid" "right") rfl)
  have n2 : NoAttr K (He.ga K "Monoid") "_made" := He.noat_ok (T.d.fact 52 (f := .noat "Monoid" "_made") rfl)
  refine F.ok scIsW (fun vs H Q E h => ?_) (fun cdv A outer s H vs Q E hr h => ?_)
  · obtain ⟨p, rows, m, wd, i, c, rfl, _⟩ := h
    rfl
  · obtain ⟨p, rows, m, wd, i, c, rfl, M, FO, lm, hi, hc, k⟩ := h
    have hu : (A.deeper (envOfC q (defScope s_Monoid_is_word_of) s.heap.objs.size f cdv)).units + 64 < cLine := hr.units
    refine ⟨_, PSs.nox (pss_one (ps_ret (pe_cmpR (op_eqD hu) (pe_ix ix_tup (pe_fld (pv 0) rfl) (pe_ix ix_tup (pe_ix ix_tup (pe_fld (pv 0) rfl) (pv 1) (fun _ _ => rfl)) (pv 2) (fun _ _ => rfl)) (fun _ _ => rfl)) (pe_tup (pa_cons (pv 1) (pa_cons (pv 2) pa_nil))) (nomark _)))), ?_⟩
    obtain ⟨dx, tr, u, v, hp, R, MM, _⟩ := id M.ex
    obtain ⟨ps, sm, lp, sp⟩ := MM.ex
    obtain ⟨as, sr, la, srow⟩ := R.ex
    obtain ⟨ai, hai⟩ := lt_get (show i < as.length by omega)
    obtain ⟨ri, hri⟩ := lt_get hi
    obtain ⟨l1, l2⟩ := FO.2.2.2.2 ri (List.mem_of_getElem? hri)
    obtain ⟨t, ht⟩ := lt_get (show c < ri.length by omega)
    have et : Mon.stp rows i c = t := by
      unfold Mon.stp
      rw [Mon.getD_of hri, Mon.getD_of ht]
    have tN := l2 t (List.mem_of_getElem? ht)
    obtain ⟨mv, hmv⟩ : ∃ mv, (V.non :: ps.map V.ref)[t]? = some mv := lt_get (by rw [List.length_cons, List.length_map]; omega)
    refine ⟨_, rfl, p, _, dx, _, _, rfl, hp, cl, n2, rfl, _, rfl, p, _, dx, _, _, rfl, hp, cl, n1, rfl, _, rfl, tr, as.map V.ref, _, .ref ai, rfl, rfl, sr, atI_nat (get_map hai), _, rfl, ai, ri.map nv, _, nv t, rfl, rfl, srow i ai ri hai hri, atI_nat (get_map ht), u, _, _, mv, rfl, rfl, sm, atI_nat hmv, _, rfl, _, rfl, (by show 2 ≤ sizeLine; decide), fun T' nT' => ?_⟩
    have u1 := same_upd (o := .tup [nv i, nv c]) nT'
    have hT : SqT K (L2.upd H T' (.tup [nv i, nv c])) T' ([i, c].map fun i => V.int (i : Nat)) := SqT.of upd_same
    generalize L2.upd H T' (.tup [nv i, nv c]) = H1 at u1 hT ⊢
    cases t with
    | zero =>
      cases hmv
      refine ⟨.none, dI [i, c], .non, dpI hT, rfl, dI_sh _, ?_⟩
      have e : isw rows m i c = false := by
        unfold isw
        rw [et]
        simp
      have e2 : PyData.none.eqv (dI [i, c]) = isw rows m i c := by rw [e]; rfl
      rw [e2]
      exact k H1 u1
    | succ t =>
      obtain ⟨pa, hpa, rfl⟩ := map_get (show (ps.map V.ref)[t]? = some mv from hmv)
      obtain ⟨q', hq'⟩ := lt_get (show t < m.length by omega)
      have sq := Lf.SqT.same u1 (sp t pa q' hpa hq')
      refine ⟨dI [q'.1, q'.2], dI [i, c], dpI sq, dpI hT, dI_sh _, dI_sh _, ?_⟩
      rw [dI_eqv]
      have e : isw rows m i c = decide ([q'.1, q'.2] = [i, c]) := by
        unfold isw
        rw [et, Nat.add_sub_cancel, hq', decide_eq_decide]
        constructor
        · rintro ⟨_, h⟩
          cases h
          rfl
        · intro h
          injection h with h1 h2
          injection h2 with h2
          exact ⟨Nat.succ_ne_zero t, by rw [← h1, ← h2]⟩
      rw [← e]
      exact k H1 u1
end
end K18

set_option Elab.async false
set_option linter.all false
set_option maxRecDepth 100000
set_option maxHeartbeats 8000000
namespace K18
open PySem PySem.Spec PyProof.Rows L2 Lf
theorem rest_preF {rows : List (List Nat)} : ∀ (m : List (Nat × Nat)) (r : List Nat), ∃ e, m.foldl (restStep rows) r = r ++ e
  | [], r => ⟨[], by simp⟩
  | p :: m, r => by
    obtain ⟨e, he⟩ := rest_preF (rows := rows) m (restStep rows r p)
    exact ⟨_, by rw [List.foldl_cons, he, restStep, List.append_assoc]⟩
theorem rest_at {rows : List (List Nat)} {m : List (Nat × Nat)} (hlt : ∀ (k : Nat) p, m[k]? = some p → p.1 < k + 1) {k : Nat} {p : Nat × Nat} (hp : m[k]? = some p) :
    (restTab rows m).getD (k + 1) 0 = if p.1 = 0 then 0 else Mon.stp rows ((restTab rows m).getD p.1 0) p.2 := by
  have kl := get_lt hp
  have a := hlt k p hp
  have e0 : m = m.take k ++ p :: m.drop (k + 1) := by
    obtain ⟨h1, h2⟩ := List.getElem?_eq_some_iff.mp hp
    rw [← h2, List.getElem_cons_drop, List.take_append_drop]
  have lk : (m.take k).length = k := by rw [List.length_take]; omega
  obtain ⟨e, he⟩ := rest_preF (rows := rows) (m.drop (k + 1)) (restTab rows (m.take k) ++ [if p.1 = 0 then 0 else Mon.stp rows ((restTab rows (m.take k)).getD p.1 0) p.2])
  have e1 : restTab rows m = restTab rows (m.take k) ++ ([if p.1 = 0 then 0 else Mon.stp rows ((restTab rows (m.take k)).getD p.1 0) p.2] ++ e) := by
    conv => lhs; rw [e0]
    unfold restTab
    rw [List.foldl_append, List.foldl_cons]
    show (m.drop (k + 1)).foldl (restStep rows) (restStep rows (restTab rows (m.take k)) p) = _
    rw [restStep, he, List.append_assoc]
    rfl
  have l1 : (restTab rows (m.take k)).length = k + 1 := by rw [rest_len, lk]
  have g1 : (restTab rows m).getD p.1 0 = (restTab rows (m.take k)).getD p.1 0 := by
    rw [e1, List.getD_eq_getElem?_getD, List.getD_eq_getElem?_getD, List.getElem?_append_left (by omega)]
  rw [g1, e1, List.getD_eq_getElem?_getD, List.getElem?_append_right (by omega), l1, Nat.sub_self]
  rfl
abbrev Cg (rows : List (List Nat)) (wd : Nat) : Prop := ∀ (u v : List Nat) (i : Nat), (∀ d ∈ u, d < wd) → (∀ d ∈ v, d < wd) → i < rows.length → Mon.walk rows 0 u = Mon.walk rows 0 v → Mon.walk rows i u = Mon.walk rows i v
section
variable {rows : List (List Nat)} {m : List (Nat × Nat)} {wd : Nat}
/-- what the rests are -/
theorem rest_word (FO : Form rows wd) (hm : Mon.madeTab 0 rows [] = some m) (lm : m.length + 1 = rows.length) (cg : Cg rows wd) : ∀ j : Nat, j < rows.length → Mon.W m ((restTab rows m).getD j 0) = (Mon.W m j).tail := by
  intro j
  induction j using Nat.strongRecOn with
  | ind j ih =>
    intro hj
    have f5 := FO.2.2.2.2
    cases j with
    | zero =>
      have e : (restTab rows m).getD 0 0 = 0 := by
        obtain ⟨e, he⟩ := rest_preF (rows := rows) m [0]
        unfold restTab
        rw [he]
        rfl
      rw [e]
      unfold Mon.W
      rw [Mon.word_0]
      rfl
    | succ k =>
      obtain ⟨p, hp⟩ := lt_get (show k < m.length by omega)
      have a := Mon.made_up hm k p hp
      have ew : Mon.W m (k + 1) = Mon.W m p.1 ++ [p.2] := Mon.word_at (Mon.made_up hm) hp
      rw [rest_at (Mon.made_up hm) hp, ew]
      by_cases h0 : p.1 = 0
      · rw [if_pos h0, h0]
        unfold Mon.W
        rw [Mon.word_0]
        rfl
      · rw [if_neg h0]
        have ih1 := ih p.1 (by omega) (by omega)
        have rl : (restTab rows m).getD p.1 0 < rows.length := by
          have z := rest_lt FO hm m.length (Nat.le_refl _)
          rw [List.take_length] at z
          obtain ⟨y, hy⟩ := lt_get (show p.1 < (restTab rows m).length by rw [rest_len]; omega)
          rw [Mon.getD_of hy]
          exact z y (List.mem_of_getElem? hy)
        generalize (restTab rows m).getD p.1 0 = r at ih1 rl ⊢
        have ne : Mon.W m p.1 ≠ [] := fun z => h0 (by
          have := Mon.walk_word hm p.1 p.1 (Nat.le_refl _) (by omega)
          have z' : (Mon.wordTab m).getD p.1 [] = [] := z
          rw [z'] at this
          exact this.symm)
        have et : (Mon.W m p.1 ++ [p.2]).tail = Mon.W m r ++ [p.2] := by
          rw [ih1]
          cases h : Mon.W m p.1 with
          | nil => exact absurd h ne
          | cons b x => rfl
        rw [et]
        have hin : Mon.W m r ++ [p.2] ∈ Mon.wordTab m := by
          rw [← et, ← ew]
          have hk : Mon.W m (k + 1) ∈ Mon.wordTab m := Mon.mem_W (by omega)
          cases h : Mon.W m (k + 1) with
          | nil => rw [h] at hk; exact hk
          | cons b x => rw [h] at hk; exact Mon.word_tail hm lm f5 cg hk
        obtain ⟨q, h1, h2, h3, h4⟩ := Mon.word_init hm hin
        have ok : ∀ d ∈ Mon.W m r ++ [p.2], d < wd := fun d hd => by
          obtain ⟨j', hj', ej⟩ := Mon.W_mem hin
          rw [ej] at hd
          exact Mon.word_ok hm f5 j' d hd
        have mw := (Mon.mem_word hm lm f5 ok).mp hin
        have wr := Mon.walk_word hm r r (Nat.le_refl _) (by omega)
        rw [Mon.walk_app] at mw
        unfold Mon.W at mw ⊢
        rw [wr] at mw
        exact mw
/-- what is due of a number and a letter -/
def dueAt (rows : List (List Nat)) (m : List (Nat × Nat)) (i c : Nat) : List (List Nat × List Nat) :=
  if Mon.W m i ++ [c] ∉ Mon.wordTab m ∧ (Mon.W m i ++ [c]).tail ∈ Mon.wordTab m then [(Mon.W m i ++ [c], Mon.W m (Mon.stp rows i c))] else []
def dueP (rows : List (List Nat)) (m : List (Nat × Nat)) (wd : Nat) : List (List Nat × List Nat) := (List.range rows.length).flatMap fun i => (List.range wd).flatMap (dueAt rows m i)
theorem isw_iff (FO : Form rows wd) (hm : Mon.madeTab 0 rows [] = some m) (lm : m.length + 1 = rows.length) {i c : Nat} (hi : i < rows.length) (hc : c < wd) : isw rows m i c = true ↔ Mon.W m i ++ [c] ∈ Mon.wordTab m := by
  obtain ⟨row, hrow⟩ := lt_get hi
  obtain ⟨l1, l2⟩ := FO.2.2.2.2 row (List.mem_of_getElem? hrow)
  obtain ⟨t, ht⟩ := lt_get (show c < row.length by omega)
  rw [Mon.is_word hm lm FO.2.2.2.2 hrow ht]
  unfold isw Mon.stp
  rw [Mon.getD_of hrow, Mon.getD_of ht, decide_eq_true_iff]
theorem rule_due (FO : Form rows wd) (hm : Mon.madeTab 0 rows [] = some m) (lm : m.length + 1 = rows.length) (cg : Cg rows wd) {i c : Nat} (hi : i < rows.length) (hc : c < wd) : ruleAt rows m i c = dueAt rows m i c := by
  have h1 := isw_iff FO hm lm hi hc
  have h2 : (i = 0 ∨ isw rows m ((restTab rows m).getD i 0) c = true) ↔ (Mon.W m i ++ [c]).tail ∈ Mon.wordTab m := by
    have rl : (restTab rows m).getD i 0 < rows.length := by
      have z := rest_lt FO hm m.length (Nat.le_refl _)
      rw [List.take_length] at z
      obtain ⟨y, hy⟩ := lt_get (show i < (restTab rows m).length by rw [rest_len]; omega)
      rw [Mon.getD_of hy]
      exact z y (List.mem_of_getElem? hy)
    have e := rest_word FO hm lm cg i hi
    rw [isw_iff FO hm lm rl hc, e]
    by_cases h0 : i = 0
    · subst h0
      have w0 : Mon.W m 0 = [] := Mon.word_0
      have m0 : ([] : List Nat) ∈ Mon.wordTab m := by
        have := Mon.mem_W (m := m) (j := 0) (by omega)
        rwa [w0] at this
      rw [w0]
      exact ⟨fun _ => m0, fun _ => .inl rfl⟩
    · have ne : Mon.W m i ≠ [] := fun z => h0 (by
        have := Mon.walk_word hm i i (Nat.le_refl _) (by omega)
        have z' : (Mon.wordTab m).getD i [] = [] := z
        rw [z'] at this
        exact this.symm)
      have et : (Mon.W m i ++ [c]).tail = (Mon.W m i).tail ++ [c] := by
        cases h : Mon.W m i with
        | nil => exact absurd h ne
        | cons b x => rfl
      rw [et]
      exact ⟨fun z => z.resolve_left h0, .inr⟩
  unfold ruleAt dueAt
  by_cases a : isw rows m i c = true
  · rw [if_pos a, if_neg (fun z => z.1 (h1.mp a))]
  · rw [if_neg a]
    by_cases b : i = 0 ∨ isw rows m ((restTab rows m).getD i 0) c = true
    · rw [if_pos b, if_pos ⟨fun z => a (h1.mpr z), h2.mp b⟩]
    · rw [if_neg b, if_neg (fun z => b (h2.mpr z.2))]
theorem flat_congr {α β : Type} {f g : α → List β} : ∀ {l : List α}, (∀ a ∈ l, f a = g a) → l.flatMap f = l.flatMap g
  | [], _ => rfl
  | a :: l, h => by rw [List.flatMap_cons, List.flatMap_cons, h a List.mem_cons_self, flat_congr fun b hb => h b (List.mem_cons_of_mem _ hb)]
theorem rules_due (FO : Form rows wd) (hm : Mon.madeTab 0 rows [] = some m) (lm : m.length + 1 = rows.length) (cg : Cg rows wd) : rulesP rows m wd = dueP rows m wd :=
  flat_congr fun i hi => flat_congr fun c hc => rule_due FO hm lm cg (List.mem_range.mp hi) (List.mem_range.mp hc)
/-- what is due comes in order -/
theorem due_srt (hm : Mon.madeTab 0 rows [] = some m) (lm : m.length + 1 = rows.length) : (dueP rows m wd).Pairwise fun p q => Mon.slt p.1 q.1 := by
  have one : ∀ i c, ∀ x ∈ dueAt rows m i c, x.1 = Mon.W m i ++ [c] := fun i c x hx => by
    unfold dueAt at hx
    split at hx
    · rw [List.mem_singleton.mp hx]
    · cases hx
  refine Mon.pw_flat (fun i hi => Mon.pw_flat (fun c hc => ?_) (List.pairwise_lt_range.imp fun {c d} hcd x hx y hy => ?_)) ?_
  · unfold dueAt
    split <;> simp
  · rw [one _ _ x hx, one _ _ y hy]
    exact Mon.slt_snoc hcd
  · refine List.Pairwise.imp_of_mem (fun {i j} hi hj hij x hx y hy => ?_) List.pairwise_lt_range
    obtain ⟨c, _, hx⟩ := List.mem_flatMap.mp hx
    obtain ⟨d, _, hy⟩ := List.mem_flatMap.mp hy
    rw [one _ _ x hx, one _ _ y hy]
    exact Mon.slt_app (Mon.words_up hm j i hij (by have := List.mem_range.mp hj; omega))
end
end K18

set_option Elab.async false
set_option linter.all false
set_option maxRecDepth 100000
set_option maxHeartbeats 8000000
namespace K18
open PySem PySem.Spec PyProof.Rows L2 Lf
def spTable (K : PySem.W.Frag) : Sp := fun vs H Q _ => ∃ r n gens, vs = [.ref r] ∧ Maps H r gens ∧ gens ≠ [] ∧ gens.length ≤ 6 ∧ 1 ≤ n ∧ n ≤ 4 ∧ (∀ g ∈ gens, Mon.Valid n g) ∧
  ∀ T pf pw pt pn as bs found rows m H', Same H H' → H T = none → H' T = some (.tup [.ref pf, .ref pw, .ref pt]) → Lay H' pf pw pt pn as bs found (Mon.wordTab m) rows → Mon.Tab n gens found rows → Mon.madeTab 0 rows [] = some m → m.length + 1 = rows.length → (H pf = none ∧ H pw = none ∧ H pt = none ∧ ∀ b ∈ bs, H b = none) → Q (.ref T) H'
abbrev teIm (K : PySem.W.Frag) : TE := tOp (rIxT K) (tVar 8) (tVar 10)
theorem rgV_nv {n : Nat} : rgV 0 (n : Nat) = (Mon.idm n).map nv := by
  unfold rgV Mon.idm
  simp
theorem letter_at {c cc : Nat} (h : c < 6) (e : ("abcdef" : Str).cps[c]? = some cc) : cc = 97 + c := by
  have : c = 0 ∨ c = 1 ∨ c = 2 ∨ c = 3 ∨ c = 4 ∨ c = 5 := by omega
  rcases this with rfl | rfl | rfl | rfl | rfl | rfl <;> exact (Option.some.inj ((show _ = some _ by decide +kernel).symm.trans e)).symm
section
variable {P : Program} {w : World} {K : PySem.W.Frag} {mg : Str → Option Value} {base : Heap}
theorem scTable : FnScope ["_law_rows", "_law_found", "_law_words", "_law_table_here", "_law_numbers", "_law_at", "_law_row", "_law_letter", "_law_other", "_law_product", "_law_image"] ["_law_rows"] (defScope s_L_table) := ⟨rfl, rfl, rfl, by decide +kernel, rfl, by decide +kernel, by decide +kernel⟩
theorem ok_table {f : Addr} {fd : FuncData} {q : Str} (F : FunD K "_law_table" q (defArgs s_L_table) (defBody s_L_table) (defScope s_L_table) [] [] f fd) (zr : mg "range" = none) (zt : mg "tuple" = none) (zn : mg "len" = none) (zz : mg "zip" = none) :
    FnOk P w K mg base CX0 1 f fd ["_law_rows"] (spTable K) := by
  refine F.ok scTable (fun vs H Q E h => ?_) (fun cdv A outer s H vs Q E hr h => ?_)
  · obtain ⟨r, n, gens, rfl, _⟩ := h
    rfl
  · obtain ⟨r, n, gens, rfl, M, ne, g6, n1, n4, gv, k⟩ := h
    have hu : (A.deeper (envOfC q (defScope s_L_table) s.heap.objs.size f cdv)).units + 1 < cLine := by have := hr.units; omega
    refine ⟨_, PSs.nox (pss_cons (ps_par3 (i := 1) (j := 2) (l := 3) rfl scTable.nd rfl rfl rfl (by decide) (by decide) (by decide) rfl rfl rfl
        (pa_cons (pe_lst (pa_cons (pe_tupRg rfl rfl zt (prg_1 rfl zr (pe_callB call_len_seq rfl zn boot_len (pa_cons (pe_ix ix_list (pv 0) pe_int (fun _ _ => rfl)) pa_nil)))) pa_nil)) (pa_cons (pe_lst (pa_cons pe_str pa_nil)) (pa_cons (pe_lst pa_nil) pa_nil))) (by rfl))
      (pss_cons (ps_set (i := 4) scTable.nd rfl (.inl rfl) (pe_dispT1 hu (pe_ix ix_list (pv 1) pe_int (fun _ _ => rfl)) pe_int))
      (pss_cons (ps_for PassesOwn.never rfl (pi_range1 rfl zr (pa_cons pe_int pa_nil)) (pg_name (i := 5) scTable.nd rfl (.inl rfl))
        (pss_cons (ps_if (pt_cmpR op_ge (pv 5) (pe_callB call_len_seq rfl zn boot_len (pa_cons (pv 1) pa_nil)) (nomark _)) (pss_one (ps_ret (pe_tup (pa_cons (pv 1) (pa_cons (pv 2) (pa_cons (pv 3) pa_nil)))))) pss_nil)
        (pss_cons (ps_set (i := 6) scTable.nd rfl (.inl rfl) (pe_lst pa_nil))
        (pss_cons (ps_for PassesOwn.never rfl (pi_zips rfl zz (pa_cons pe_str (pa_cons (pv 0) pa_nil))) (pg_tup rfl (pgs_cons (pg_name (i := 7) scTable.nd rfl (.inl rfl)) (pgs_cons (pg_name (i := 8) scTable.nd rfl (.inr rfl)) pgs_nil)))
          (pss_cons (ps_set (i := 9) scTable.nd rfl (.inl rfl) (pe_callTy call_tuple_of rfl zt PyProof.Rows.boot_tuple (pa_cons (pe_lc (own := [("_law_image", 10)]) (g := gName 10) (te := teIm K) (by rfl) scTable.nd (pi_tup (pe_ix ix_list (pv 1) (pv 5) (fun _ _ => rfl))) (blkOk_by (own := [("_law_image", 10)]) (N := ["_law_rows", "_law_found", "_law_words", "_law_table_here", "_law_numbers", "_law_at", "_law_row", "_law_letter", "_law_other", "_law_product", "_law_image"]) (sc := defScope s_L_table) (by decide +kernel)) (fun _ _ _ _ _ => pg_name (i := 10) scTable.nd rfl (Or.inl rfl)) (fun _ _ _ _ _ => pts_nil)
              (fun _ _ _ _ _ => by exact pe_ix ix_tup (pv 8) (pv 10) (fun _ _ => rfl))) pa_nil)))
          (pss_cons (ps_if (pt_cmp (pc_dnotin hu (pv 9) (pv 4)) (by rfl))
            (pss_cons (ps_dput hu (pv 4) (pv 9) (pe_callB call_len_seq rfl zn boot_len (pa_cons (pv 1) pa_nil)) rfl)
            (pss_cons (ps_expr (pe_bm PySem.F.plainAttrs_list PySem.F.slot_list_append PySem.F.type_list_append mt_append (pv 1) (pa_cons (pv 9) pa_nil)))
            (pss_one (ps_expr (pe_bm PySem.F.plainAttrs_list PySem.F.slot_list_append PySem.F.type_list_append mt_append (pv 2) (pa_cons (pe_op op_add_str (pe_ix ix_list (pv 2) (pv 5) (fun _ _ => rfl)) (pv 7)) pa_nil)))))) pss_nil)
          (pss_one (ps_expr (pe_bm PySem.F.plainAttrs_list PySem.F.slot_list_append PySem.F.type_list_append mt_append (pv 6) (pa_cons (pe_dget hu (pv 4) (pv 9) (fun _ _ => rfl)) pa_nil)))))))
        (pss_one (ps_expr (pe_bm PySem.F.plainAttrs_list PySem.F.slot_list_append PySem.F.type_list_append mt_append (pv 3) (pa_cons (pv 6) pa_nil))))))))
      (pss_one (ps_ret (pe_tup (pa_cons (pv 1) (pa_cons (pv 2) (pa_cons (pv 3) pa_nil))))))))), ?_⟩
    obtain ⟨gs, hr0, lg, eg⟩ := M.ex
    have n0 : 0 < gens.length := List.length_pos_iff.mpr ne
    obtain ⟨a0, ha0⟩ := lt_get (show 0 < gs.length by omega)
    obtain ⟨g0, hg0⟩ := lt_get n0
    have v0 := gv g0 (List.mem_of_getElem? hg0)
    refine ⟨_, rfl, r, gs.map V.ref, 0, .ref a0, rfl, rfl, SqL.of hr0, atI_nat (j := 0) (get_map ha0), a0, g0.map nv, rfl, .inr (SqT.of (eg 0 a0 g0 ha0 hg0)), (n : Nat), by rw [List.length_map, v0.1], ?_⟩
    refine ⟨⟨by decide, by decide, by omega, by omega, by omega⟩, fun i0 ni0 => ?_⟩
    rw [rgV_nv]
    have s1 := same_upd (o := .tup ((Mon.idm n).map nv)) ni0
    have h1 : upd H i0 (.tup ((Mon.idm n).map nv)) i0 = some (.tup ((Mon.idm n).map nv)) := upd_same
    generalize upd H i0 (.tup ((Mon.idm n).map nv)) = H1 at s1 h1 ⊢
    refine ⟨(by show 1 ≤ sizeLine; decide), fun pf nf => ⟨(by show 1 ≤ sizeLine; decide), fun pw nw => ⟨(by show 0 ≤ sizeLine; decide), fun pt nt => ⟨_, _, _, rfl, ?_⟩⟩⟩⟩
    have hpf0 : H pf = none := by
      cases e : H pf with
      | none => rfl
      | some o => rw [s1 _ _ e] at nf; cases nf
    have hf2 : upd H1 pf (.lst [.ref i0]) pf = some (.lst ([i0].map V.ref)) := upd_same
    have s2 := s1.trans (same_upd (o := .lst [.ref i0]) nf)
    have h2 := same_upd (o := .lst [.ref i0]) nf _ _ h1
    generalize upd H1 pf (.lst [.ref i0]) = H2 at s2 h2 hf2 nw nt ⊢
    have hpw0 : H pw = none := by
      cases e : H pw with
      | none => rfl
      | some o => rw [s2 _ _ e] at nw; cases nw
    have hw3 : upd H2 pw (.lst [.str ("" : Str)]) pw = some (.lst ([[]].map wv)) := upd_same
    have u3 := same_upd (o := .lst [.str ("" : Str)]) nw
    have s3 := s2.trans u3
    have h3 := u3 _ _ h2
    have hf3 := u3 _ _ hf2
    have d1 := ne_of_none hf2 nw
    generalize upd H2 pw (.lst [.str ("" : Str)]) = H3 at s3 h3 hf3 hw3 nt ⊢
    have hpt0 : H pt = none := by
      cases e : H pt with
      | none => rfl
      | some o => rw [s3 _ _ e] at nt; cases nt
    have ht4 : upd H3 pt (.lst []) pt = some (.lst (([] : List Addr).map V.ref)) := upd_same
    have u4 := same_upd (o := .lst []) nt
    have s4 := s3.trans u4
    have h4 := u4 _ _ h3
    have hf4 := u4 _ _ hf3
    have hw4 := u4 _ _ hw3
    have d2 := ne_of_none hf3 nt
    have d3 := ne_of_none hw3 nt
    generalize upd H3 pt (.lst []) = H4 at s4 h4 hf4 hw4 ht4 ⊢
    clear u3 u4 s1 s2 s3 h1 h2 h3 hf2 hf3 hw3 nf nw nt
    intro pn nn
    have u5 := same_upd (o := .dT []) nn
    have s5 := s4.trans u5
    have h5 := u5 _ _ h4
    have hf5 := u5 _ _ hf4
    have hw5 := u5 _ _ hw4
    have ht5 := u5 _ _ ht4
    have hn5 : upd H4 pn (.dT []) pn = some (.dT []) := upd_same
    have hn0 : H pn = none := by
      cases e : H pn with
      | none => rfl
      | some o => rw [s4 _ _ e] at nn; cases nn
    generalize upd H4 pn (.dT []) = H5 at s5 h5 hf5 hw5 ht5 hn5 ⊢
    refine ⟨_, rfl, pf, _, 0, .ref i0, rfl, rfl, SqL.of hf5, rfl, kt (Mon.idm n), i0, _, hn5, rfl, by rw [kt_map]; exact h5, rfl, ?_⟩
    have s6 : Same H (upd H5 pn (.dT [(kt (Mon.idm n), .int 0)])) := fun b o e => by
      rw [upd_ne (ne_of_none e hn0)]
      exact s5 b o e
    have L0 : Lay (upd H5 pn (.dT [(kt (Mon.idm n), .int 0)])) pf pw pt pn [i0] [] [Mon.idm n] (Mon.wordTab []) [] := by
      have e1 : pn ≠ pf := fun z => by rw [z, hf5] at hn5; cases hn5
      have e2 : pn ≠ pw := fun z => by rw [z, hw5] at hn5; cases hn5
      have e3 : pn ≠ pt := fun z => by rw [z, ht5] at hn5; cases hn5
      refine ⟨by rw [upd_ne e1.symm]; exact hf5, rfl, fun j a x g1 g2 => ?_, by rw [upd_ne e2.symm]; exact hw5, by rw [upd_ne e3.symm]; exact ht5, rfl, fun j b r g1 g2 => (by simp at g1), fun b hb => (by cases hb), upd_same, d1, d2, d3⟩
      cases j with
      | zero =>
        cases g1
        cases g2
        rw [upd_ne (fun z => by rw [z, hn5] at h5; cases h5)]
        exact h5
      | succ j => simp at g1
    generalize upd H5 pn (.dT [(kt (Mon.idm n), .int 0)]) = H6 at s6 L0 ⊢
    clear s5 h5 hf5 hw5 ht5 hn5 hf4 hw4 ht4 h4 u5 s4 nn
    have hp0 : ∀ {b : Addr} {o : HO}, H b = some o → b ≠ pn := fun e => ne_of_none e hn0
    refine ⟨3000, rfl, by decide, by decide, for_range (lo := 0) (n := 3000) (fun i σ Hn => ∃ v5 v6 v7 v8 v9 : Option V, σ = [some (.ref r), some (.ref pf), some (.ref pw), some (.ref pt), some (.ref pn), v5, v6, v7, v8, v9, none] ∧ Same H Hn ∧ ∃ as bs found rows m, Lay Hn pf pw pt pn as bs found (Mon.wordTab m) rows ∧ Mon.Bfs n gens i 0 found rows [] m ∧ ∀ b ∈ bs, H b = none)
      ⟨none, none, none, none, none, rfl, s6, [i0], [], [Mon.idm n], [], [], L0, Mon.Bfs.start gv, fun b hb => (by cases hb)⟩ (fun i σ Hn hi ⟨v5, v6, v7, v8, v9, eσ, sn, as, bs, found, rows, m, L, B, fr⟩ => ?_) (fun σ Hn ⟨v5, v6, v7, v8, v9, eσ, sn, as, bs, found, rows, m, L, B, fr⟩ => ?_)⟩
    · subst eσ
      have ei : (0 : Int) + (i : Nat) = (i : Nat) := by omega
      rw [ei]
      have f1 := B.few
      have f2 : n ^ n ≤ 256 := by
        have : n = 1 ∨ n = 2 ∨ n = 3 ∨ n = 4 := by omega
        rcases this with rfl | rfl | rfl | rfl <;> decide
      refine ⟨_, rfl, _, rfl, pf, as.map V.ref, rfl, .inl (SqL.of L.f), _, _, rfl, rfl, _, rfl, ?_⟩
      rw [List.length_map, L.fl]
      refine ite2 (fun h0 => ?_) (fun h0 => ?_)
      · have le := of_decide_eq_true h0
        refine ⟨_, rfl, _, rfl, _, rfl, (by show 3 ≤ sizeLine; decide), fun T nT => ?_⟩
        obtain ⟨Tb, hm, lm⟩ := B.tab (by omega)
        have u := same_upd (o := .tup [.ref pf, .ref pw, .ref pt]) nT
        have nT0 : H T = none := by
          cases e : H T with
          | none => rfl
          | some o => rw [sn _ _ e] at nT; cases nT
        exact k T pf pw pt pn as bs found rows m _ (sn.trans u) nT0 upd_same (L.same u) Tb hm lm ⟨hpf0, hpw0, hpt0, fr⟩
      · have il : i < found.length := by
          by_cases z : i < found.length
          · exact z
          · exact (h0 (decide_eq_true (by omega))).elim
        refine ⟨(by show 0 ≤ sizeLine; decide), fun pr nr => ?_⟩
        have np : pr ≠ pf ∧ pr ≠ pw ∧ pr ≠ pt := ⟨(ne_of_none L.f nr).symm, (ne_of_none L.w nr).symm, (ne_of_none L.t nr).symm⟩
        have nb : pr ∉ bs := fun hb => by
          obtain ⟨j, hj⟩ := List.getElem?_of_mem hb
          obtain ⟨r', hr'⟩ := lt_get (show j < rows.length by rw [← L.tl]; exact get_lt hj)
          have := L.te j pr r' hj hr'
          rw [nr] at this
          cases this
        have u := same_upd (o := .lst []) nr
        have L1 := L.same u
        have s7 := sn.trans u
        have hr7 : upd Hn pr (.lst []) pr = some (.lst (([] : List Nat).map nv)) := upd_same
        have nr0 : H pr = none := by
          cases e : H pr with
          | none => rfl
          | some o => rw [sn _ _ e] at nr; cases nr
        have nf0 : H pf = none ∧ H pw = none ∧ H pt = none := ⟨hpf0, hpw0, hpt0⟩
        generalize upd Hn pr (.lst []) = H7 at L1 s7 hr7 ⊢
        clear L nr u sn
        have wk : Walk (Itzs K ("abcdef" : Str) r) (gs.map V.ref).length (fun H2 => Same H H2) (fun i H v H' => ∃ (T : Addr) (c : Nat) (y : V), v = .ref T ∧ H T = none ∧ H' = L2.upd H T (.tup [.str ⟨#[c]⟩, y]) ∧ ("abcdef" : Str).cps[i]? = some c ∧ (gs.map V.ref)[i]? = some y) :=
          (walk_zips (x := ("abcdef" : Str)) (ys := gs.map V.ref) (by rw [List.length_map, lg]; exact g6)).mono (fun H s => L2.Same.seq s (SqL.of hr0)) (fun i H x H' _ _ y => y)
        refine ⟨_, rfl, _, r, gs.map V.ref, rfl, SqL.of (s7 _ _ hr0), for_it wk (fun c σ Hc => ∃ v7 v8 v9 : Option V, σ = [some (.ref r), some (.ref pf), some (.ref pw), some (.ref pt), some (.ref pn), some (.int (i : Nat)), some (.ref pr), v7, v8, v9, none] ∧ Same H Hc ∧ ∃ as found m row, Lay Hc pf pw pt pn as bs found (Mon.wordTab m) rows ∧ Mon.Bfs n gens i c found rows row m ∧ Hc pr = some (.lst (row.map nv)) ∧ i < found.length)
          ⟨_, _, _, rfl, s7, as, found, m, [], L1, B, hr7, il⟩ (fun c σ Hc _ ⟨_, _, _, _, z, _⟩ => z) (fun c y σ Hc H8 hc ⟨v7, v8, v9, eσ, sc, as, found, m, row, L, B, hR, il⟩ ⟨T, cc, z, ey, nT, e8, hcc, hz⟩ => ?_) (fun σ Hc ⟨v7, v8, v9, eσ, sc, as, found, m, row, L, B, hR, il⟩ => ?_)⟩
        · subst eσ ey e8
          obtain ⟨bg, hbg, rfl⟩ := map_get hz
          obtain ⟨g, hg⟩ := lt_get (show c < gens.length by rw [← lg]; exact get_lt hbg)
          obtain ⟨x, hx⟩ := lt_get il
          obtain ⟨a, ha⟩ := lt_get (show i < as.length by rw [L.fl]; exact il)
          have vx := B.val x (List.mem_of_getElem? hx)
          have vg := gv g (List.mem_of_getElem? hg)
          have cc6 : cc = 97 + c := letter_at (Nat.lt_of_lt_of_le (get_lt hg) g6) hcc
          refine ⟨T, _, rfl, SqT.of upd_same, rfl, _, _, rfl, _, _, rfl, rfl, ?_⟩
          have u8 := same_upd (o := .tup [.str ⟨#[cc]⟩, .ref bg]) nT
          have s8 := sc.trans u8
          have L8 := L.same u8
          have hR8 := u8 _ _ hR
          generalize L2.upd Hc T (.tup [.str ⟨#[cc]⟩, .ref bg]) = H8 at s8 L8 hR8 ⊢
          clear u8 nT L hR sc
          have hg8 : H8 bg = some (.tup (g.map nv)) := s8 _ _ (eg c bg g hbg hg)
          have ha8 := L8.fe i a x ha hx
          refine ⟨_, rfl, _, rfl, pf, as.map V.ref, _, .ref a, rfl, rfl, SqL.of L8.f, atI_nat (get_map ha), a, rfl, ⟨_, SqT.of ha8⟩, fun D nD => ?_⟩
          refine lc_tup (K := K) (a := a) (xs := x.map nv) (fun j Hd => But D H8 Hd ∧ Hd D = some (.lst (((x.take j).map fun i => g.getD i 0).map nv))) ⟨But.upd, upd_same⟩ (fun j Hd _ ⟨bd, _⟩ => Lf.SqT.same (Same.but (L2.Same.refl _) nD bd) (SqT.of ha8)) (fun j z Hd hz ⟨bd, hD⟩ => ?_) (fun Hd ⟨bd, hD⟩ => ?_)
          · obtain ⟨xi, hxi, rfl⟩ := map_get hz
            refine ⟨rfl, yesT ?_⟩
            have sd := Same.but (L2.Same.refl _) nD bd
            obtain ⟨e, he⟩ := lt_get (show xi < g.length by rw [vg.1]; exact vx.2 xi (List.mem_of_getElem? hxi))
            refine ⟨_, rfl, _, rfl, bg, g.map nv, _, nv e, rfl, rfl, SqT.of (sd _ _ hg8), atI_nat (get_map he), ?_⟩
            refine ⟨_, hD, ?_, But.trans bd But.upd, ?_⟩
            · rw [List.length_map, List.length_map, List.length_take]
              have := vx.1
              show min j x.length < 16777216
              omega
            · rw [upd_same, take_snoc hxi, List.map_append, List.map_append, List.map_cons, List.map_nil, List.map_cons, List.map_nil, Mon.getD_of he]
          · rw [List.length_map, List.take_length] at hD
            have sd := Same.but (L2.Same.refl _) nD bd
            refine ⟨D, _, rfl, .inl ⟨SqL.of hD, fun N nN => ?_⟩⟩
            have u9 := sd.trans (same_upd (o := .tup ((x.map fun i => g.getD i 0).map nv)) nN)
            have hN : L2.upd Hd N (.tup ((x.map fun i => g.getD i 0).map nv)) N = some (.tup ((kt (Mon.comp x g)).map kV)) := by rw [kt_map]; exact upd_same
            generalize L2.upd Hd N (.tup ((x.map fun i => g.getD i 0).map nv)) = H9 at u9 hN ⊢
            have s9 := s8.trans u9
            have L9 := L8.same u9
            have hR9 := u9 _ _ hR8
            have hNn : H9 N = some (.tup ((Mon.comp x g).map nv)) := by rw [hN, kt_map]
            clear hD bd sd nN u9 s8 L8 hR8 hg8 ha8
            have f1 := B.few
            have f2 : n ^ n ≤ 256 := by
              have : n = 1 ∨ n = 2 ∨ n = 3 ∨ n = 4 := by omega
              rcases this with rfl | rfl | rfl | rfl <;> decide
            have rl : (row.map nv).length < 16777216 := by rw [List.length_map, B.rlen]; have := get_lt hg; omega
            refine ⟨_, rfl, _, rfl, pn, _, rfl, DGet.t L9.d hN, _, rfl, ?_⟩
            by_cases hm : Mon.comp x g ∈ found
            · obtain ⟨t, ht⟩ := List.getElem?_of_mem hm
              have hv : valV (dtab found) (kt (Mon.comp x g)) = some (nv t) := by
                have := dtabF_some (k := 0) B.nd ht
                rwa [Nat.zero_add] at this
              rw [hv]
              refine ifF rfl ?_
              refine ⟨_, rfl, .inl ⟨rfl, _, SqL.of hR9⟩, _, rfl, _, rfl, pn, nv t, rfl, hv ▸ DGet.t L9.d hN, pr, row.map nv, _, rfl, rfl, hR9, rl, _, _, _, rfl, fun b o e => ?_, as, found, m, row ++ [t], L9.off hR9 np nb, B.old hx hg ht, ?_, il⟩
              · rw [upd_ne (ne_of_none e nr0)]
                exact s9 b o e
              · rw [upd_same, List.map_append]
                rfl
            · have hv : valV (dtab found) (kt (Mon.comp x g)) = none := dtabF_none hm
              rw [hv]
              refine ifT rfl ?_
              obtain ⟨wd, hwd⟩ := lt_get (show i < (Mon.wordTab m).length by rw [Mon.word_len, B.mlen]; exact il)
              have lwd := word_short (List.mem_of_getElem? hwd)
              have ml := B.mlen
              obtain ⟨e1, e2, e3⟩ := L9.gn
              have epr : pr ≠ pn := fun z => by
                have := L9.d
                rw [← z, hR9] at this
                cases this
              refine ⟨_, rfl, pf, as.map V.ref, rfl, .inl (SqL.of L9.f), _, rfl, _, rfl, pn, _, rfl, DPut.t L9.d hN (by rw [dtabF_len]; show found.length < 16777216; omega), ?_⟩
              rw [List.length_map, L9.fl, dtab_put hm]
              have hf10 : L2.upd H9 pn (.dT (dtab (found ++ [Mon.comp x g]))) pf = some (.lst (as.map V.ref)) := by rw [upd_ne e1.symm]; exact L9.f
              have hw11 : L2.upd (L2.upd H9 pn (.dT (dtab (found ++ [Mon.comp x g])))) pf (.lst (as.map V.ref ++ [.ref N])) pw = some (.lst ((Mon.wordTab m).map wv)) := by rw [upd_ne L9.n1.symm, upd_ne e2.symm]; exact L9.w
              refine ⟨_, rfl, .inl ⟨rfl, _, SqL.of hf10⟩, _, rfl, pf, as.map V.ref, _, rfl, rfl, hf10, (by rw [List.length_map, L9.fl]; show found.length < 16777216; omega), ?_⟩
              refine ⟨_, rfl, .inl ⟨rfl, _, SqL.of hw11⟩, _, rfl, _, rfl, pw, _, _, wv wd, rfl, rfl, SqL.of hw11, atI_nat (get_map hwd), _, rfl, ws wd, ⟨#[cc]⟩, rfl, rfl, (by rw [ws_len]; show wd.length + 1 ≤ 16777216; omega), pw, (Mon.wordTab m).map wv, _, rfl, rfl, hw11, (by rw [List.length_map, Mon.word_len]; show m.length + 1 < 16777216; omega), ?_⟩
              have B2 := B.new hx hg hm
              have L12 : Lay (L2.upd (L2.upd (L2.upd H9 pn (.dT (dtab (found ++ [Mon.comp x g])))) pf (.lst (as.map V.ref ++ [.ref N]))) pw (.lst ((Mon.wordTab m).map wv ++ [.str (ws wd ++ (⟨#[cc]⟩ : Str))]))) pf pw pt pn (as ++ [N]) bs (found ++ [Mon.comp x g]) (Mon.wordTab (m ++ [(i, c)])) rows := by
                have q := L9.add (wd := wd ++ [c]) hNn
                rw [Mon.word_snoc, Mon.wordStep, Mon.getD_of hwd, cc6, ws_app]
                simp only [List.map_append, List.map_cons, List.map_nil] at q
                exact q
              have hR12 : L2.upd (L2.upd (L2.upd H9 pn (.dT (dtab (found ++ [Mon.comp x g])))) pf (.lst (as.map V.ref ++ [.ref N]))) pw (.lst ((Mon.wordTab m).map wv ++ [.str (ws wd ++ (⟨#[cc]⟩ : Str))])) pr = some (.lst (row.map nv)) := by
                rw [upd_ne np.2.1, upd_ne np.1, upd_ne epr]
                exact hR9
              have hN12 : L2.upd (L2.upd (L2.upd H9 pn (.dT (dtab (found ++ [Mon.comp x g])))) pf (.lst (as.map V.ref ++ [.ref N]))) pw (.lst ((Mon.wordTab m).map wv ++ [.str (ws wd ++ (⟨#[cc]⟩ : Str))])) N = some (.tup ((kt (Mon.comp x g)).map kV)) := by
                rw [upd_ne (fun z => by rw [z, L9.w] at hN; cases hN), upd_ne (fun z => by rw [z, L9.f] at hN; cases hN), upd_ne (fun z => by rw [z, L9.d] at hN; cases hN)]
                exact hN
              have s12 : Same H (L2.upd (L2.upd (L2.upd H9 pn (.dT (dtab (found ++ [Mon.comp x g])))) pf (.lst (as.map V.ref ++ [.ref N]))) pw (.lst ((Mon.wordTab m).map wv ++ [.str (ws wd ++ (⟨#[cc]⟩ : Str))]))) := fun b o e => by
                rw [upd_ne (ne_of_none e hpw0), upd_ne (ne_of_none e hpf0), upd_ne (ne_of_none e hn0)]
                exact s9 b o e
              generalize L2.upd (L2.upd (L2.upd H9 pn (.dT (dtab (found ++ [Mon.comp x g])))) pf (.lst (as.map V.ref ++ [.ref N]))) pw (.lst ((Mon.wordTab m).map wv ++ [.str (ws wd ++ (⟨#[cc]⟩ : Str))])) = H12 at L12 hR12 hN12 s12 ⊢
              have hv2 : valV (dtab (found ++ [Mon.comp x g])) (kt (Mon.comp x g)) = some (nv found.length) := by
                have := dtabF_some (k := 0) (i := found.length) B2.nd (by rw [List.getElem?_append_right (Nat.le_refl _), Nat.sub_self]; rfl)
                rwa [Nat.zero_add] at this
              refine ⟨_, rfl, .inl ⟨rfl, _, SqL.of hR12⟩, _, rfl, _, rfl, pn, nv found.length, rfl, hv2 ▸ DGet.t L12.d hN12, pr, row.map nv, _, rfl, rfl, hR12, rl, _, _, _, rfl, fun b o e => ?_, as ++ [N], _, _, row ++ [found.length], L12.off hR12 np nb, B2, ?_, by rw [List.length_append]; omega⟩
              · rw [upd_ne (ne_of_none e nr0)]
                exact s12 b o e
              · rw [upd_same, List.map_append]
                rfl
        · subst eσ
          have gl : (gs.map V.ref).length = gens.length := by rw [List.length_map, lg]
          rw [gl] at B
          obtain ⟨x, hx⟩ := lt_get il
          refine ⟨_, rfl, .inl ⟨rfl, _, SqL.of L.t⟩, _, rfl, pt, bs.map V.ref, _, rfl, rfl, L.t, by rw [List.length_map, L.tl, B.len]; show i < 16777216; omega, _, _, _, _, _, rfl, fun b o e => ?_, as, bs ++ [pr], found, rows ++ [row], m, ?_, B.next rfl (by omega) hx, fun b hb => ?_⟩
          · rw [upd_ne (ne_of_none e nf0.2.2)]
            exact sc b o e
          · have := L.row hR np
            rw [List.map_append] at this
            exact this
          · rcases List.mem_append.mp hb with z | z
            · exact fr b z
            · rw [List.mem_singleton.mp z]
              exact nr0
    · exfalso
      have f1 := B.few
      have f2 : n ^ n ≤ 256 := by
        have : n = 1 ∨ n = 2 ∨ n = 3 ∨ n = 4 := by omega
        rcases this with rfl | rfl | rfl | rfl <;> decide
      have := B.le
      omega
end
end K18

set_option Elab.async false
set_option linter.all false
set_option maxRecDepth 100000
set_option maxHeartbeats 4000000
/-! A head by three kernel runs: the looks, the view, the facts; the facts over the objects at the addresses as. -/
namespace Lf
open PySem PySem.W PySem.Calls PyProof.Rows
/-- classes, dicts, functions and the rest, in this order -/
def isCl : Obj → Bool
  | ⟨_, _, .cls _, _⟩ => true
  | _ => false
def isDi : Obj → Bool
  | ⟨_, _, .dict _ _, _⟩ => true
  | _ => false
def isFu : Obj → Bool
  | ⟨_, _, .func _, _⟩ => true
  | _ => false
def isFi : Obj → Bool
  | ⟨_, _, .fields vs, _⟩ => !vs.isEmpty
  | _ => false
/-- tuples: the defaults of defs -/
def isTu : Obj → Bool
  | ⟨.type "tuple", _, .seq _ _, _⟩ => true
  | _ => false
def sorted4 (l : Frag) : Frag := l.filter (fun q => isCl q.2) ++ (l.filter (fun q => isDi q.2) ++ (l.filter (fun q => isFu q.2) ++ (l.filter (fun q => isFi q.2) ++ l.filter fun q => isTu q.2)))
theorem sorted4_sub {l : Frag} {q : Addr × Obj} (h : q ∈ sorted4 l) : q ∈ l := by
  unfold sorted4 at h
  simp only [List.mem_append, List.mem_filter] at h
  rcases h with h | h | h | h | h <;> exact h.1
def frR (g : Addr → Option Obj) (as : List Addr) : Frag := sorted4 (He.frG g as)
theorem frR_in {as : List Addr} {h : Heap} : (frR h.get? as).In h := fun _ _ e => He.frG_mem (sorted4_sub (He.lookup_mem e))
theorem frR_none {g : Addr → Option Obj} {as : List Addr} {a : Addr} {o : Obj} (h : g a = some o) (ht : He.emptyTab o = true) : (frR g as).lookup a = none := by
  cases e : (frR g as).lookup a with
  | none => rfl
  | some u =>
    have m := He.lookup_mem e
    have z := He.frG_mem (sorted4_sub m)
    rw [h] at z
    obtain rfl := Option.some.inj z
    rw [He.emptyTab_eq ht] at m
    unfold frR sorted4 at m
    simp only [List.mem_append, List.mem_filter] at m
    rcases m with m | m | m | m | m <;> exact absurd m.2 (by decide)
/-- what is told: the facts, the Bool, the defs' code tables: empty, not among the objects looked at -/
structure SaysR (fa : List He.Fa) (fn : List He.DefD) (tf : List He.Defn) (ex : Frag → Bool) (h : Heap) (K : Frag) : Prop where
  d : He.SaysD fa fn K
  m : ex K = true
  hd : ∀ p ∈ tf, codeHdIn K (He.cT K p).1 (He.cT K p).2 = true
  out : ∀ p ∈ tf, K.lookup (He.cT K p).2 = none
  empty : ∀ p ∈ tf, h.get? (He.cT K p).2 = some { cls := .none, data := .fields #[] }
def obsR (as : List Addr) (fa : List He.Fa) (fn : List He.DefD) (tf : List He.Defn) (ex : Frag → Bool) (g : Addr → Option Obj) : He.AlD × Bool :=
  (He.obsD fa fn (frR g as), ex (frR g as) && He.tabsB g tf (frR g as))
theorem saysR_of {as : List Addr} {fa : List He.Fa} {fn : List He.DefD} {tf : List He.Defn} {ex : Frag → Bool} {h : Heap} (e : obsR as fa fn tf ex h.get? = (He.valD fn, true)) : SaysR fa fn tf ex h (frR h.get? as) := by
  obtain ⟨h1, h2⟩ := He.ba (show (ex (frR h.get? as) && He.tabsB h.get? tf (frR h.get? as)) = true from congrArg Prod.snd e)
  have key : ∀ p ∈ tf, codeHdIn (frR h.get? as) (He.cT (frR h.get? as) p).1 (He.cT (frR h.get? as) p).2 = true ∧ ∃ o, h.get? (He.cT (frR h.get? as) p).2 = some o ∧ He.emptyTab o = true := fun p hp => by
    obtain ⟨k1, k2⟩ := He.ba (List.all_eq_true.mp h2 p hp)
    refine ⟨k1, ?_⟩
    cases q : h.get? (He.cT (frR h.get? as) p).2 with
    | none => rw [q] at k2; cases k2
    | some o => rw [q] at k2; exact ⟨o, rfl, k2⟩
  refine ⟨congrArg Prod.fst e, h1, fun p hp => (key p hp).1, fun p hp => ?_, fun p hp => ?_⟩
  · obtain ⟨_, o, q, z⟩ := key p hp
    exact frR_none q z
  · obtain ⟨_, o, q, z⟩ := key p hp
    rw [q, He.emptyTab_eq z]
def hookR (as : List Addr) (fa : List He.Fa) (fn : List He.DefD) (tf : List He.Defn) (ex : Frag → Bool) : Hook where
  α := He.AlD × Bool
  obs := fun s => obsR as fa fn tf ex s.heap.get?
  val := fun _ => (He.valD fn, true)
  says := fun _ h => ∃ K : Frag, K.In h ∧ SaysR fa fn tf ex h K
  of := fun _ _ e => ⟨_, frR_in, saysR_of e⟩
  keeps := fun _ _ _ ⟨K, hK, c⟩ k => ⟨K, Frag.In.keeps hK k, ⟨c.d, c.m, c.hd, c.out, fun p hp => k _ _ (c.empty p hp)⟩⟩
theorem obsR_eq {as : List Addr} {fa : List He.Fa} {fn : List He.DefD} {tf : List He.Defn} {ex : Frag → Bool} {g : Addr → Option Obj} {s : Shared} (h : ∀ a, g a = s.heap.get? a) : obsR as fa fn tf ex g = (hookR as fa fn tf ex).obs s := by
  have e : g = s.heap.get? := funext h
  rw [e] <;> rfl
theorem three {α A B C : Type} {o : Option α} {f : α → A} {g : α → B} {h : α → C} {a : A} {b : B} {c : C} (x : o.map f = some a) (y : o.map g = some b) (z : o.map h = some c) : o.map (fun s => (f s, g s, h s)) = some (a, b, c) := by
  cases o with
  | none => cases x
  | some s =>
    have x1 : f s = a := Option.some.inj x
    have y1 : g s = b := Option.some.inj y
    have z1 : h s = c := Option.some.inj z
    show some (f s, g s, h s) = _
    rw [x1, y1, z1]
/-- the state behind the top -/
noncomputable def endOf (r : OpenRow) (M : Nat) (w : World) (os : OsState) : Option SharedT := HandSHeadRun.endF (HandSHeadRun.stepQ (HandSHeadRun.denQ HandSHeadRun.tabQ) r.prog w) M r.prog w os
noncomputable def looksOf (r : OpenRow) (w : World) (s : SharedT) : Bool := HandSHeadRun.looksF r.prog (boot_heap w.params) s.abs
noncomputable def viewOf (r : OpenRow) (q : Program) (loose : List PySem.Str) (s : SharedT) := HandSHeadRun.seenQ q loose (importedModules r.prog.main.body) (fun s => xlAt q [] s && recOk r.toRowW.records s) s.abs
theorem run_three {r : OpenRow} {q : Program} {H : Hook} {ob : SharedT → H.α} {M : Nat} {loose : List PySem.Str} {w : World} (a : ∀ os, (endOf r M w os).map (looksOf r w) = some true)
    (b : ∀ os, (endOf r M w os).map (viewOf r q loose) = some (openGood q loose)) (c : ∀ os, (endOf r M w os).map ob = some (H.val w)) : HandSHeadRun.RunEq r q H ob M loose w := fun os => three (a os) (b os) (c os)
end Lf

set_option Elab.async false
set_option linter.all false
set_option maxRecDepth 100000
set_option maxHeartbeats 4000000
/-! sorted(xs, key=lambda p: p[1]) of pairs (a thing, a text) that are in order already. -/
namespace Lf
open PySem PySem.Spec PyProof.Rows L2 LamX
abbrev lamArgs (x : Str) (p : Pos) : Arguments := { posonlyargs := [], args := [{ arg := x, annotation := none, pos := p }], vararg := none, kwonlyargs := [], kw_defaults := [], kwarg := none, defaults := [] }
abbrev lamScope (x : Str) : Scope := { kind := .function, names := [(x, .local)], isGenerator := false, isCoroutine := false }
abbrev lamBody (x : Str) (p1 p2 p3 : Pos) (j : Nat) : Expr := .Subscript (.Name x p1) (.Constant (.int 1) j p2) p3
section
variable {prog : Program} {w : World} {A : Around} {s : Shared}
/-- the lambda called on a pair -/
theorem lam_key {f c' t : Addr} {x qual u : Str} {pp p1 p2 p3 : Pos} {j : Nat} {pm ctv v0 : Value} {tk : Tok} (hx : (x == ("__debug__" : Str)) = false) (hd : A.depth < recursionLimit) (lim : s.heap.NoLimit)
    (hf : s.heap.get? f = some (PySem.W.kla_obj "<lambda>" qual (lamArgs x pp) (lamBody x p1 p2 p3 j) (lamScope x) [] pm c' ctv))
    (hb : bindArgs (PySem.W.kla_fn "<lambda>" qual (lamArgs x pp) (lamBody x p1 p2 p3 j) (lamScope x) [] pm (.ref c') ctv) ⟨[.ref t], []⟩ = pure [(x, .ref t)])
    (hc : ∃ (oc : Obj) (vs : Array Value) (t : Tok), s.heap.get? c' = some oc ∧ oc.data = .fields vs ∧ vs[1]? = some (.str qual t)) (ht : IsTup s.heap t #[v0, .str u tk]) :
    wpAny (model prog w) A (call (.ref f) [.ref t]) (PySem.W.KeyPure (.str u) s) (fun _ _ => False) s := by
  obtain ⟨oc, vs, t', hoc, hdc, hvc⟩ := hc
  refine wpAny_call (PySem.W.kla_callFunE hd hf rfl rfl rfl rfl ⟨c', oc, vs, t', rfl, hoc, hdc, hvc⟩ ?_)
  rw [hb]
  refine wpAny_pure (wpAny_newFunctionEnv (fun y hy => ?_) (fun y hy => ?_) (fun h₁ hns hsb => ⟨lim.fresh _ hsb, ?_⟩) rfl)
  · cases List.mem_singleton.mp hy
    intro z
    cases z
  · cases List.mem_singleton.mp hy
    show ([(x, NameKind.local)] : List (Str × NameKind)).lookup x = _
    simp
  · have kp : ∀ b o, s.heap.get? b = some o → h₁.get? b = some o := fun b o e => hsb.extBut b o (Nat.ne_of_lt (Heap.lt_size e)) (Heap.get?_push_of_some _ e)
    refine PySem.W.kla_codeExpr (Subscript_ (wpAny_Name (wpAny_loadName_local (v := .ref t) rfl ?_ hns ?_ ?_) hx))
    · show ([(x, NameKind.local)] : List (Str × NameKind)).lookup x = _
      simp
    · simp
    · refine wpAny_Constant_int ?_
      refine item_tuple (j := 1) (x := .str u tk) (items := #[v0, .str u tk]) ?_ (by decide) (by decide) (by rfl) (by rfl) ?_
      · exact ht.keeps kp
      · exact ⟨h₁, _, rfl, kp, .str u tk⟩
end
/-- a thing and a text, the place of their pair -/
abbrev Pt3 := Addr × V × Str
abbrev keyLe (b c : Pt3) : Prop := b.2.2.cps.toList ≤ c.2.2.cps.toList
def tSrtLam (K : PySem.W.Frag) (T : List (Addr × Str)) (te : TE) : TE := fun σ H Q => te σ H fun v H1 => ∃ (a : Addr) (bs : List Pt3), v = .ref a ∧ SqL K H1 a (bs.map fun b => V.ref b.1) ∧ (∀ b ∈ bs, H1 b.1 = some (.tup [b.2.1, .str b.2.2])) ∧ bs.Pairwise keyLe ∧ Tabs T H1 ∧
  ∀ p H2, ExtN H1 H2 → Tabs T H2 → (∀ o, H1 p = some o → ∃ ps, o = .tbl ps) → H2 p = some (.lst (bs.map fun b => V.ref b.1)) → Q (.ref p) H2
theorem vals_refs3 : ∀ {bs : List Pt3} {its : List Value}, Vals (bs.map fun b => V.ref b.1) its → PySem.W.EachIs (fun (v : Value) (b : Pt3) => v = Value.ref b.1) its bs
  | [], _, .nil => .nil
  | b :: bs, _ :: _, .cons r t => .cons r (vals_refs3 t)
theorem refs3_vals : ∀ {bs : List Pt3} {its : List Value}, PySem.W.EachIs (fun (v : Value) (b : Pt3) => v = Value.ref b.1) its bs → Vals (bs.map fun b => V.ref b.1) its
  | [], _, .nil => .nil
  | b :: bs, _ :: _, .cons r t => .cons r (refs3_vals t)
section
variable {X : Cx}
theorem sqL_extN {K : PySem.W.Frag} {H H' : Hp} {a : Addr} {xs : List V} (e : ExtN H H') (h : SqL K H a xs) : SqL K H' a xs := by
  rcases h with (h | ⟨o, h⟩) | h
  · exact .inl (.inl (e _ _ h (fun ps z => by cases z)))
  · exact .inl (.inr ⟨o, e _ _ h (fun ps z => by cases z)⟩)
  · exact .inr h
theorem sqT_extN {K : PySem.W.Frag} {H H' : Hp} {a : Addr} {xs : List V} (e : ExtN H H') (h : SqT K H a xs) : SqT K H' a xs := by
  rcases h with (h | ⟨o, h⟩) | h
  · exact .inl (.inl (e _ _ h (fun ps z => by cases z)))
  · exact .inl (.inr ⟨o, e _ _ h (fun ps z => by cases z)⟩)
  · exact .inr h
theorem pe_sortedLam {T : List (Addr × Str)} {c P : Addr} {k : Nat} {x y : Str} {te : TE} {py pp p p1 p2 p3 lpos kpos pos : Pos} {j : Nat} (hr : Room (k + 2) X.A) (hg : Gl X "sorted") (hm : X.mg "sorted" = none) (hx : (x == ("__debug__" : Str)) = false)
    (TB : TabB X.base X.mg c P) (hcode : X.env.code = .ref c) (hmT : (P, X.env.qual ++ "<lambda>") ∈ T) (hu : ∀ p ∈ T, p.1 = P → p.2 = X.env.qual ++ "<lambda>") (ha : PE X (.Name y py) te)
    (hbind : ∀ (q : Str) (pm cv ctv u : Value), bindArgs (PySem.W.kla_fn "<lambda>" q (lamArgs x pp) (lamBody x p1 p2 p3 j) (lamScope x) [] pm cv ctv) ⟨[u], []⟩ = pure [(x, u)]) :
    PE X (.Call (.Name "sorted" p) [.Name y py] [⟨some "key", .Lambda (lamArgs x pp) (lamBody x p1 p2 p3 j) (lamScope x) lpos, kpos⟩] pos) (tSrtLam X.K T te) := by
  refine ⟨fun pins s σ H Q I h => ?_⟩
  have hv : bootBuiltins "sorted" = some (.builtin "sorted") := by kernel_rfl
  refine wpAny_Call_Name_kw (ld_blt I hg hm hv ?_)
  refine PyProof.Rows.callWith_kw (Calls.spliced_cons (thn (ha.run pins s σ H _ I h) fun u s1 hq => Calls.spliced_nil ?_))
  obtain ⟨v, H1, I1, r1, a, bs, rfl, hs, hbs, hord, hT, q⟩ := hq
  obtain rfl : u = Value.ref a := r1
  show wpAny _ _ (evalAll ((do let v ← eval (.Lambda (lamArgs x pp) (lamBody x p1 p2 p3 j) (lamScope x) lpos) X.env; standAt pos; pure v) :: [])) _ _ s1
  refine wpAny_evalAll_cons (wpAny_bind (lam_make2 I1 TB hcode hmT hu hT (by rfl) (fun y hy e => ?_) fun f c' pm ctv H2 s2 I2 eN T2 hf hfn hfr hco => wpAny_bind (wpAny_standAt (wpAny_pure (wpAny_evalAll_nil ?_)))))
  · cases List.mem_singleton.mp hy
    cases e
  show wpAny _ _ (call (.builtin "sorted") [.ref a] [(Str.ofString "key", .ref f)]) _ _ s2
  obtain ⟨its, rv, hl, hz⟩ := I2.list (sqL_extN eN hs)
  rw [List.length_map] at hz
  have hbs2 : ∀ b ∈ bs, H2 b.1 = some (.tup [b.2.1, .str b.2.2]) := fun b hb => eN _ _ (hbs b hb) (fun ps z => by cases z)
  refine PySem.W.sorted_key_data (R := fun (v : Value) (b : Pt3) => v = Value.ref b.1) (bs := bs) (b := false) (fun b => .str b.2.2) hl.isList (vals_refs3 rv) (fun d hd d' hd' => ?_) (.inr fun d hd => ?_) hz (fun b hb => ?_) (ksk_s1 _ _) (fun _ => ksk_l1 _ _) (fun x => ksk_t1 f x) (fun v b e hb h tk kp => ?_) (fun out c1 h' tk kp nf hout lo eo => ?_)
  · obtain ⟨b, _, rfl⟩ := List.mem_map.mp hd
    obtain ⟨b', _, rfl⟩ := List.mem_map.mp hd'
    rfl
  · obtain ⟨b, _, rfl⟩ := List.mem_map.mp hd
    exact ⟨(fun z => by cases z), (fun xs z => by cases z)⟩
  · have := hr.un
    have e : (PyData.str b.2.2).depth ≤ 1 := by simp [PyData.depth]
    omega
  · subst e
    obtain ⟨its2, rv2, ht2, _⟩ := I2.tuple (.inl (.inl (hbs2 b hb)))
    obtain ⟨v0, v1, rfl, e0, e1⟩ := vals2 rv2
    obtain ⟨tk1, rfl⟩ := e1
    obtain ⟨oc, vs, t, e1, e2, e3⟩ := (I2.hok c' _ hco).1
    refine lam_key (s := { s2 with heap := h, toks := tk }) hx ?_ (I2.nolimit.keeps kp) (kp _ _ hf) (hbind _ _ _ _ _) ⟨oc, vs, t, kp _ _ e1, e2, e3⟩ (ht2.keeps kp)
    have := hr.dp
    show X.A.depth < _
    omega
  · have em : bs.mergeSort (PySem.W.dataLe false fun b : Pt3 => .str b.2.2) = bs := by
      rw [PySem.W.dataLe_str]
      exact List.mergeSort_of_pairwise (hord.imp fun h => decide_eq_true h)
    rw [em] at eo
    have np : H2 (s2.heap.objs.size + 1) = none := I2.hok.fresh (Nat.le_succ _)
    have hlen : (bs.map fun b : Pt3 => V.ref b.1).length ≤ sizeLine := by rw [List.length_map]; exact hz
    refine ⟨.ref _, upd H2 (s2.heap.objs.size + 1) (.lst (bs.map fun b => V.ref b.1)), I2.laid kp (Nat.le_succ _) ⟨hlen, out, c1, refs3_vals eo, hout⟩, rfl, q _ _ (eN.trans (ExtN.of fun b o e => by rw [upd_ne (ne_of_none e np)]; exact e)) (T2.ext fun b o e => by rw [upd_ne (ne_of_none e np)]; exact e) (fun o ho => ?_) upd_same⟩
    cases hq : H1 (s2.heap.objs.size + 1) with
    | none => rw [hq] at ho; cases ho
    | some u =>
      rw [hq] at ho
      cases ho
      by_cases ht : ∃ ps, o = .tbl ps
      · exact ht
      · have := eN _ _ hq (fun ps z => ht ⟨ps, z⟩)
        rw [np] at this
        cases this
end
end Lf
namespace Lf
open PySem PySem.Spec PyProof.Rows L2 LamX
section
variable {P : Program} {w : World} {K : PySem.W.Frag} {mg : Str → Option Value} {base : Heap} {x qual : Str} {params : Arguments} {body : List Stmt} {scope : Scope} {dvs : List V} {kws : List (Str × V)} {fd : FuncData} {a : He.Defn}
/-- a def's promise, its code object told -/
theorem okC {CX : CXT} {N ps : List Str} {k : Nat} {sp : Sp} (F : FunD K x qual params body scope dvs kws (He.fAd K a) fd) (S : FnScope N ps scope) (len : ∀ vs H Q E, sp vs H Q E → vs.length = ps.length)
    (hb : ∀ (A : Around) (outer : List Env) (s : Shared) (H : Hp) (vs : List V) (Q : VK) (E : XK), Room k (A.deeper (envOfC qual scope s.heap.objs.size (He.fAd K a) (.ref (He.codeOf K a)))) → sp vs H Q E →
      ∃ t, PSs (cxOf CX P w K mg base N qual scope (He.fAd K a) (.ref (He.codeOf K a)) A outer s H E) body t ∧ t { nx := fun _ H' => Q .non H', rt := Q } (L2.start N vs) H) : FnOk P w K mg base CX (k + 1) (He.fAd K a) fd ps sp := by
  obtain ⟨oc, od, dV, kV, doc, pm, an, cdv, ct, osl, rfl, lk, hcd, _, _⟩ := F.ex
  obtain ⟨c, rfl⟩ := He.codeIn_ref hcd
  have e := He.codeOf_eq lk rfl
  subst e
  exact fn_of lk hcd S len hb
end
end Lf

set_option Elab.async false
set_option linter.all false
set_option maxRecDepth 100000
set_option maxHeartbeats 4000000
/-! sorted(xs, key=lambda p: (len(p[0]), p[0])) of pairs (a text, a thing) that are in order already. -/
namespace Lf
open PySem PySem.Spec PyProof.Rows L2 LamX
abbrev lamScope2 (x : Str) : Scope := { kind := .function, names := [(x, .local), ("len", .globalImplicit)], isGenerator := false, isCoroutine := false }
abbrev lamBody2 (x : Str) (p1 p2 p3 p4 p5 p6 p7 p8 p9 : Pos) (j j' k : Nat) : Expr := .Tuple [.Call (.Name "len" p1) [.Subscript (.Name x p2) (.Constant (.int 0) j p3) p4] [] p5, .Subscript (.Name x p6) (.Constant (.int 0) j' p7) p8] k p9
section
variable {prog : Program} {w : World} {A : Around} {s : Shared}
theorem lam_key2 {f c' t : Addr} {x qual u : Str} {pp p1 p2 p3 p4 p5 p6 p7 p8 p9 : Pos} {j j' k : Nat} {pm ctv v1 : Value} {tk : Tok} {mg mb : Str → Option Value} (hx : (x == ("__debug__" : Str)) = false) (hxl : (("len" : Str) == x) = false) (hd : A.depth < recursionLimit) (lim : s.heap.NoLimit)
    (gl : s.heap.Ns mainGlobals mg) (gm : mg ("len" : Str) = none) (bl : s.heap.Ns builtinsNs mb) (bm : mb "len" = some (.builtin "len")) (hu : u.length ≤ 1000000)
    (hf : s.heap.get? f = some (PySem.W.kla_obj "<lambda>" qual (lamArgs x pp) (lamBody2 x p1 p2 p3 p4 p5 p6 p7 p8 p9 j j' k) (lamScope2 x) [] pm c' ctv))
    (hb : bindArgs (PySem.W.kla_fn "<lambda>" qual (lamArgs x pp) (lamBody2 x p1 p2 p3 p4 p5 p6 p7 p8 p9 j j' k) (lamScope2 x) [] pm (.ref c') ctv) ⟨[.ref t], []⟩ = pure [(x, .ref t)])
    (hc : ∃ (oc : Obj) (vs : Array Value) (t : Tok), s.heap.get? c' = some oc ∧ oc.data = .fields vs ∧ vs[1]? = some (.str qual t)) (ht : IsTup s.heap t #[.str u tk, v1]) :
    wpAny (model prog w) A (call (.ref f) [.ref t]) (PySem.W.KeyPure (.tuple [.int u.length, .str u]) s) (fun _ _ => False) s := by
  obtain ⟨oc, vs, t', hoc, hdc, hvc⟩ := hc
  refine wpAny_call (PySem.W.kla_callFunE hd hf rfl rfl rfl rfl ⟨c', oc, vs, t', rfl, hoc, hdc, hvc⟩ ?_)
  rw [hb]
  have look : ([(x, NameKind.local), ("len", .globalImplicit)] : List (Str × NameKind)).lookup x = some .local := by simp
  have lookL : ([(x, NameKind.local), (("len" : Str), .globalImplicit)] : List (Str × NameKind)).lookup ("len" : Str) = some .globalImplicit := by
    rw [List.lookup_cons, hxl]
    simp
  refine wpAny_pure (wpAny_newFunctionEnv (fun y hy => ?_) (fun y hy => ?_) (fun h₁ hns hsb => ⟨lim.fresh _ hsb, ?_⟩) rfl)
  · rcases List.mem_cons.mp hy with rfl | hy
    · intro z
      cases z
    · cases List.mem_singleton.mp hy
      intro z
      cases z
  · cases List.mem_singleton.mp hy
    exact look
  · have kp : ∀ b o, s.heap.get? b = some o → h₁.get? b = some o := fun b o e => hsb.extBut b o (Nat.ne_of_lt (Heap.lt_size e)) (Heap.get?_push_of_some _ e)
    have one : ∀ {tk' : Nat} {i : Nat} {pa pb pc : Pos} {E : Value → Shared → Prop} {Q : Value → Shared → Prop} {A' : Around}, (∀ tk2, Q (.str u tk) { s with heap := h₁, toks := tk2 }) → wpAny (model prog w) A' (eval (.Subscript (.Name x pa) (.Constant (.int 0) i pb) pc) (newEnv (lamScope2 x) s.heap.objs.size mainGlobals [] (qual ++ ".<locals>.") (some f) (.ref c') none builtinsNs)) Q E { s with heap := h₁, toks := tk' } := fun {tk' i pa pb pc E Q A'} q => by
      refine Subscript_ (wpAny_Name (wpAny_loadName_local (v := .ref t) rfl ?_ hns ?_ ?_) hx)
      · exact look
      · simp
      · refine wpAny_Constant_int ?_
        refine item_tuple (j := 0) (x := .str u tk) (items := #[.str u tk, v1]) ?_ (by decide) (by decide) (by rfl) (by rfl) ?_
        · exact ht.keeps kp
        · exact q _
    refine PySem.W.kla_codeExpr (wpAny_Tuple_spliced (Calls.spliced_cons (wpAny_Call_Name_kw (Calls.Name_function_global rfl ?_ (Calls.loadGlobal_builtin (gl.keeps kp) gm (bl.keeps kp) bm ?_) (by decide))) ))
    · exact lookL
    · refine PyProof.Rows.callWith_builtin1 (Calls.spliced_cons (one fun tk2 => Calls.spliced_nil (len_str (by omega) ?_)))
      refine Calls.spliced_cons (one fun tk3 => Calls.spliced_nil ⟨(by show 2 ≤ sizeLine; decide), ?_⟩)
      refine ⟨_, _, rfl, fun b o e => Heap.get?_push_of_some _ (kp b o e), ?_⟩
      exact Reads.tuple (Heap.get?_push_size _ rfl) rfl rfl (.cons (.int _ _) (.cons (.str _ _) .nil))
end
/-- a text and a thing, the place of their pair -/
abbrev Pt4 := Addr × Str × V
abbrev key4 (b : Pt4) : PyData := .tuple [.int b.2.1.length, .str b.2.1]
abbrev keyLt4 (b c : Pt4) : Prop := b.2.1.length < c.2.1.length ∨ b.2.1.length = c.2.1.length ∧ b.2.1.cps.toList < c.2.1.cps.toList
theorem key4_le {b c : Pt4} (h : keyLt4 b c) : PySem.W.dataLe false key4 b c = true := by
  show (!PySem.W.dataLt (key4 c) (key4 b)) = true
  rw [PySem.W.dataLt_pair (by simp [PySem.W.alike]) (by simp [PySem.W.alike]), PySem.W.dataLt_int, PySem.W.dataLt_str]
  simp only [PyData.eqv, beq_iff_eq]
  rcases h with h | ⟨h, k⟩
  · rw [if_neg (by omega), decide_eq_false (by omega)]
    rfl
  · rw [if_pos (by omega)]
    have nk : ¬ c.2.1.cps.toList < b.2.1.cps.toList := List.not_lt.mpr (List.le_of_lt k)
    rw [decide_eq_false nk]
    split <;> rfl
def tSrtLam2 (K : PySem.W.Frag) (T : List (Addr × Str)) (te : TE) : TE := fun σ H Q => te σ H fun v H1 => ∃ (a : Addr) (bs : List Pt4), v = .ref a ∧ SqL K H1 a (bs.map fun b => V.ref b.1) ∧ (∀ b ∈ bs, H1 b.1 = some (.tup [.str b.2.1, b.2.2])) ∧ (∀ b ∈ bs, b.2.1.length ≤ 1000000) ∧ bs.Pairwise keyLt4 ∧ Tabs T H1 ∧
  ∀ p H2, ExtN H1 H2 → Tabs T H2 → (∀ o, H1 p = some o → ∃ ps, o = .tbl ps) → H2 p = some (.lst (bs.map fun b => V.ref b.1)) → Q (.ref p) H2
theorem vals_refs4 : ∀ {bs : List Pt4} {its : List Value}, Vals (bs.map fun b => V.ref b.1) its → PySem.W.EachIs (fun (v : Value) (b : Pt4) => v = Value.ref b.1) its bs
  | [], _, .nil => .nil
  | b :: bs, _ :: _, .cons r t => .cons r (vals_refs4 t)
theorem refs4_vals : ∀ {bs : List Pt4} {its : List Value}, PySem.W.EachIs (fun (v : Value) (b : Pt4) => v = Value.ref b.1) its bs → Vals (bs.map fun b => V.ref b.1) its
  | [], _, .nil => .nil
  | b :: bs, _ :: _, .cons r t => .cons r (refs4_vals t)
section
variable {X : Cx}
theorem pe_sortedLam2 {T : List (Addr × Str)} {c P : Addr} {k n : Nat} {x y : Str} {te : TE} {py pp p p1 p2 p3 p4 p5 p6 p7 p8 p9 lpos kpos pos : Pos} {j j' : Nat} (hr : Room (k + 2) X.A) (hg : Gl X "sorted") (hm : X.mg "sorted" = none) (hml : X.mg ("len" : Str) = none) (hx : (x == ("__debug__" : Str)) = false) (hxl : (("len" : Str) == x) = false)
    (TB : TabB X.base X.mg c P) (hcode : X.env.code = .ref c) (hmT : (P, X.env.qual ++ "<lambda>") ∈ T) (hu : ∀ p ∈ T, p.1 = P → p.2 = X.env.qual ++ "<lambda>") (ha : PE X (.Name y py) te)
    (hbind : ∀ (q : Str) (pm cv ctv u : Value), bindArgs (PySem.W.kla_fn "<lambda>" q (lamArgs x pp) (lamBody2 x p1 p2 p3 p4 p5 p6 p7 p8 p9 j j' n) (lamScope2 x) [] pm cv ctv) ⟨[u], []⟩ = pure [(x, u)]) :
    PE X (.Call (.Name "sorted" p) [.Name y py] [⟨some "key", .Lambda (lamArgs x pp) (lamBody2 x p1 p2 p3 p4 p5 p6 p7 p8 p9 j j' n) (lamScope2 x) lpos, kpos⟩] pos) (tSrtLam2 X.K T te) := by
  refine ⟨fun pins s σ H Q I h => ?_⟩
  have hv : bootBuiltins "sorted" = some (.builtin "sorted") := by kernel_rfl
  refine wpAny_Call_Name_kw (ld_blt I hg hm hv ?_)
  refine PyProof.Rows.callWith_kw (Calls.spliced_cons (thn (ha.run pins s σ H _ I h) fun u s1 hq => Calls.spliced_nil ?_))
  obtain ⟨v, H1, I1, r1, a, bs, rfl, hs, hbs, hbl, hord, hT, q⟩ := hq
  obtain rfl : u = Value.ref a := r1
  show wpAny _ _ (evalAll ((do let v ← eval (.Lambda (lamArgs x pp) (lamBody2 x p1 p2 p3 p4 p5 p6 p7 p8 p9 j j' n) (lamScope2 x) lpos) X.env; standAt pos; pure v) :: [])) _ _ s1
  refine wpAny_evalAll_cons (wpAny_bind (lam_make2 I1 TB hcode hmT hu hT (by rfl) (fun y hy e => ?_) fun f c' pm ctv H2 s2 I2 eN T2 hf hfn hfr hco => wpAny_bind (wpAny_standAt (wpAny_pure (wpAny_evalAll_nil ?_)))))
  · rcases List.mem_cons.mp hy with rfl | hy
    · cases e
    · cases List.mem_singleton.mp hy
      cases e
  show wpAny _ _ (call (.builtin "sorted") [.ref a] [(Str.ofString "key", .ref f)]) _ _ s2
  obtain ⟨its, rv, hl, hz⟩ := I2.list (sqL_extN eN hs)
  rw [List.length_map] at hz
  have hbs2 : ∀ b ∈ bs, H2 b.1 = some (.tup [.str b.2.1, b.2.2]) := fun b hb => eN _ _ (hbs b hb) (fun ps z => by cases z)
  refine PySem.W.sorted_key_data (R := fun (v : Value) (b : Pt4) => v = Value.ref b.1) (bs := bs) (b := false) key4 hl.isList (vals_refs4 rv) (fun d hd d' hd' => ?_) (.inl fun d hd => ?_) hz (fun b hb => ?_) (ksk_s1 _ _) (fun _ => ksk_l1 _ _) (fun x => ksk_t1 f x) (fun v b e hb h tk kp => ?_) (fun out c1 h' tk kp nf hout lo eo => ?_)
  · obtain ⟨b, _, rfl⟩ := List.mem_map.mp hd
    obtain ⟨b', _, rfl⟩ := List.mem_map.mp hd'
    rfl
  · obtain ⟨b, _, rfl⟩ := List.mem_map.mp hd
    exact ⟨_, _, rfl⟩
  · have := hr.un
    have e : (key4 b).depth ≤ 3 := by simp [key4, PyData.depth, PyData.depthAll]
    omega
  · subst e
    obtain ⟨its2, rv2, ht2, _⟩ := I2.tuple (.inl (.inl (hbs2 b hb)))
    obtain ⟨v0, v1, rfl, e0, e1⟩ := vals2 rv2
    obtain ⟨tk1, rfl⟩ := e0
    obtain ⟨oc, vs, t, e1, e2, e3⟩ := (I2.hok c' _ hco).1
    obtain ⟨mb, b1, b2⟩ := I2.mod.blt
    refine lam_key2 (s := { s2 with heap := h, toks := tk }) (mg := X.mg) (mb := mb) hx hxl ?_ (I2.nolimit.keeps kp) ((I2.mod.glob.keeps I2.bk).keeps kp) hml ((b1.keeps I2.bk).keeps kp) ((b2 ("len" : Str) (by decide)).trans (by kernel_rfl)) (hbl b hb) (kp _ _ hf) (hbind _ _ _ _ _) ⟨oc, vs, t, kp _ _ e1, e2, e3⟩ (ht2.keeps kp)
    have := hr.dp
    show X.A.depth < _
    omega
  · have em : bs.mergeSort (PySem.W.dataLe false key4) = bs := List.mergeSort_of_pairwise (hord.imp fun h => key4_le h)
    rw [em] at eo
    have np : H2 (s2.heap.objs.size + 1) = none := I2.hok.fresh (Nat.le_succ _)
    have hlen : (bs.map fun b : Pt4 => V.ref b.1).length ≤ sizeLine := by rw [List.length_map]; exact hz
    refine ⟨.ref _, upd H2 (s2.heap.objs.size + 1) (.lst (bs.map fun b => V.ref b.1)), I2.laid kp (Nat.le_succ _) ⟨hlen, out, c1, refs4_vals eo, hout⟩, rfl, q _ _ (eN.trans (ExtN.of fun b o e => by rw [upd_ne (ne_of_none e np)]; exact e)) (T2.ext fun b o e => by rw [upd_ne (ne_of_none e np)]; exact e) (fun o ho => ?_) upd_same⟩
    cases hq : H1 (s2.heap.objs.size + 1) with
    | none => rw [hq] at ho; cases ho
    | some u =>
      rw [hq] at ho
      cases ho
      by_cases ht : ∃ ps, o = .tbl ps
      · exact ht
      · have := eN _ _ hq (fun ps z => ht ⟨ps, z⟩)
        rw [np] at this
        cases this
end
end Lf

set_option Elab.async false
set_option linter.all false
set_option maxRecDepth 100000
set_option maxHeartbeats 8000000
namespace K18
open PySem PySem.Spec PyProof.Rows L2 Lf LamX
abbrev Tbs (K : PySem.W.Frag) : List (Addr × Str) := [((He.cT K ("_law_due", none)).2, (("_law_due" : Str) ++ (".<locals>." : Str)) ++ ("<lambda>" : Str))]
/-- at a stands nothing, or a table -/
def Nt (H : Hp) (a : Addr) : Prop := ∀ o, H a = some o → ∃ ps, o = .tbl ps
theorem Nt.of {H : Hp} {a : Addr} (h : H a = none) : Nt H a := fun o e => by rw [h] at e; cases e
theorem nt_ext {H H' : Hp} {a : Addr} (e : ExtN H H') (h : Nt H' a) : Nt H a := fun o ho => by
  by_cases ht : ∃ ps, o = .tbl ps
  · exact ht
  · exact h o (e _ _ ho (fun ps z => ht ⟨ps, z⟩))
/-- known words -/
def sk (u : List Nat) : Key := Sum.inr (ws u)
theorem ws_inj {u v : List Nat} (h : ws u = ws v) : u = v := by
  unfold ws at h
  have h1 : u.map (fun c => 97 + c) = v.map (fun c => 97 + c) := by simpa using h
  exact List.map_inj_right (fun a b e => by omega) |>.mp h1
theorem sk_inj {u v : List Nat} (h : sk u = sk v) : u = v := by
  unfold sk at h
  injection h with h
  exact ws_inj h
def knw (acc : List (Key × V)) (l : List (List Nat)) : List (Key × V) := mergeK acc (l.map fun u => (sk u, V.bl true))
theorem knw_val : ∀ {l : List (List Nat)} {acc : List (Key × V)} {u : List Nat}, valV (knw acc l) (sk u) = if u ∈ l then some (.bl true) else valV acc (sk u)
  | [], acc, u => by simp [knw, mergeK]
  | x :: l, acc, u => by
    have e : knw acc (x :: l) = knw (putK acc (sk x) (.bl true)) l := rfl
    rw [e, knw_val, valV_put]
    by_cases h1 : u ∈ l
    · rw [if_pos h1, if_pos (List.mem_cons_of_mem _ h1)]
    · rw [if_neg h1]
      by_cases h2 : u = x
      · subst h2
        rw [if_pos rfl, if_pos List.mem_cons_self]
      · rw [if_neg (fun z => h2 (sk_inj z)), if_neg (fun z => (List.mem_cons.mp z).elim h2 h1)]
theorem cut_tail {u : List Nat} : cutS (ws u) (some 1) none = ws u.tail := by
  unfold cutS ws
  cases u with
  | nil => rfl
  | cons a r =>
    have e1 : HT.sIx (Str.mk (((a :: r).map fun c => 97 + c).toArray)).length 0 (some 1) = 1 := by
      have := HT.sIx_nat (Str.mk (((a :: r).map fun c => 97 + c).toArray)).length 0 1
      rw [show ((1 : Nat) : Int) = 1 from rfl] at this
      rw [this]
      show min 1 (((a :: r).map fun c => 97 + c).toArray).size = 1
      simp
    rw [e1, HT.sIx_none]
    congr 1
    simp
    rw [List.take_of_length_le]
    show _ ≤ (((a :: r).map fun c => 97 + c).toArray).size - 1
    simp
theorem paired_of {α β γ : Type} {F : α → β → Prop} {g : γ → β} : ∀ {ps : List α} {us : List γ}, ps.length = us.length → (∀ (j : Nat) a u, ps[j]? = some a → us[j]? = some u → F a (g u)) → Paired F ps (us.map g)
  | [], [], _, _ => .nil
  | [], _ :: _, h, _ => by simp at h
  | _ :: _, [], h, _ => by simp at h
  | a :: ps, u :: us, h, e => .cons (e 0 a u rfl rfl) (paired_of (by simpa using h) fun j x v h1 h2 => e (j + 1) x v (by simpa using h1) (by simpa using h2))
theorem due_few {rows : List (List Nat)} {m : List (Nat × Nat)} {wd : Nat} (i c : Nat) : (((List.range i).flatMap fun i => (List.range wd).flatMap (dueAt rows m i)) ++ (List.range c).flatMap (dueAt rows m i)).length ≤ i * wd + c := by
  have one : ∀ i c, (dueAt rows m i c).length ≤ 1 := fun i c => by
    unfold dueAt
    split <;> simp
  have row : ∀ i c, ((List.range c).flatMap (dueAt rows m i)).length ≤ c := fun i c => by
    induction c with
    | zero => simp
    | succ c ih =>
      rw [List.range_succ, List.flatMap_append, List.length_append]
      have := one i c
      simp only [List.flatMap_cons, List.flatMap_nil, List.append_nil]
      omega
  have all : ∀ i, ((List.range i).flatMap fun i => (List.range wd).flatMap (dueAt rows m i)).length ≤ i * wd := fun i => by
    induction i with
    | zero => simp
    | succ i ih =>
      rw [List.range_succ, List.flatMap_append, List.length_append, Nat.succ_mul]
      have := row i wd
      simp only [List.flatMap_cons, List.flatMap_nil, List.append_nil]
      omega
  have := all i
  have := row i c
  rw [List.length_append]
  omega
def spDue (K : PySem.W.Frag) : Sp := fun vs H Q _ => ∃ lw pt rows m wd, vs = [.ref lw, .ref pt] ∧ SqL K H lw ((Mon.wordTab m).map wv) ∧ RowsL K H pt rows ∧ Form rows wd ∧ Mon.madeTab 0 rows [] = some m ∧ m.length + 1 = rows.length ∧ Tabs (Tbs K) H ∧
  ∀ p prs H', ExtN H H' → Tabs (Tbs K) H' → Nt H p → Prw H' p prs (dueP rows m wd) → Q (.ref p) H'
theorem llt_key : ∀ {x y : List Nat}, Mon.llt x y → (x.map fun c => 97 + c) < (y.map fun c => 97 + c)
  | [], _, h => h.elim
  | _ :: _, [], h => h.elim
  | a :: x, b :: y, h => by
    rw [List.map_cons, List.map_cons, List.cons_lt_cons_iff]
    rcases h with h | ⟨rfl, h⟩
    · exact .inl (by omega)
    · exact .inr ⟨rfl, llt_key h⟩
abbrev b4 (prs : List Addr) (qs : List (List Nat × List Nat)) : List Pt4 := (prs.zip qs).map fun z => (z.1, ws z.2.1, wv z.2.2)
theorem b4_refs {prs : List Addr} {qs : List (List Nat × List Nat)} (l : prs.length = qs.length) : (b4 prs qs).map (fun b => V.ref b.1) = prs.map V.ref := by
  rw [List.map_map]
  show (prs.zip qs).map (V.ref ∘ Prod.fst) = _
  rw [← List.map_map, List.map_fst_zip (by omega)]
theorem b4_el {H : Hp} {D : Addr} {prs : List Addr} {qs : List (List Nat × List Nat)} (h : Prw H D prs qs) : ∀ b ∈ b4 prs qs, H b.1 = some (.tup [.str b.2.1, b.2.2]) := fun b hb => by
  obtain ⟨z, hz, rfl⟩ := List.mem_map.mp hb
  obtain ⟨j, hj⟩ := List.getElem?_of_mem hz
  obtain ⟨h1, h2⟩ := List.getElem?_zip_eq_some.mp hj
  exact h.el j _ _ h1 h2
theorem b4_len {n : Nat} {prs : List Addr} {qs : List (List Nat × List Nat)} (h : ∀ q ∈ qs, q.1.length ≤ n) : ∀ b ∈ b4 prs qs, b.2.1.length ≤ n := fun b hb => by
  obtain ⟨z, hz, rfl⟩ := List.mem_map.mp hb
  rw [ws_len]
  exact h z.2 (List.of_mem_zip hz).2
theorem b4_ord {prs : List Addr} {qs : List (List Nat × List Nat)} (l : prs.length = qs.length) (h : qs.Pairwise fun p q => Mon.slt p.1 q.1) : (b4 prs qs).Pairwise keyLt4 := by
  rw [List.pairwise_map]
  have e : ((prs.zip qs).map Prod.snd).Pairwise fun p q => Mon.slt p.1 q.1 := by
    rw [List.map_snd_zip (by omega)]
    exact h
  rw [List.pairwise_map] at e
  exact e.imp fun {a b} z => by
    show (ws a.2.1).length < (ws b.2.1).length ∨ (ws a.2.1).length = (ws b.2.1).length ∧ (ws a.2.1).cps.toList < (ws b.2.1).cps.toList
    rw [ws_len, ws_len]
    rcases z with z | ⟨z, k⟩
    · exact .inl z
    · have := llt_key k
      exact .inr ⟨z, by unfold ws; exact this⟩
abbrev NDU : List Str := ["_law_words", "_law_table_here", "_law_word", "_law_known", "_law_found", "_law_number", "_law_letter", "_law_other", "_law_longer"]
abbrev tePt : TE := tTup (tCons (tVar 2) (tCons (tC (.bl true)) tNil))
section
variable {P : Program} {w : World} {K : PySem.W.Frag} {mg : Str → Option Value} {base : Heap}
theorem scDue : FnScope NDU ["_law_words", "_law_table_here"] (defScope s_L_due) := ⟨rfl, rfl, rfl, by decide +kernel, rfl, by decide +kernel, by decide +kernel⟩
theorem ok_due {fd : FuncData} (F : FunD K "_law_due" "_law_due" (defArgs s_L_due) (defBody s_L_due) (defScope s_L_due) [] [] (He.fAd K ("_law_due", none)) fd) (TB : TabB base mg (He.cT K ("_law_due", none)).1 (He.cT K ("_law_due", none)).2)
    (zd : mg "dict" = none) (zE : mg "enumerate" = none) (zz : mg "zip" = none) (zs : mg "sorted" = none) (zn : mg "len" = none) :
    FnOk P w K mg base CX0 4 (He.fAd K ("_law_due", none)) fd ["_law_words", "_law_table_here"] (spDue K) := by
  refine okC F scDue (fun vs H Q E h => ?_) (fun A outer s H vs Q E hr h => ?_)
  · obtain ⟨lw, pt, rows, m, wd, rfl, _⟩ := h
    rfl
  · obtain ⟨lw, pt, rows, m, wd, rfl, hW, R, FO, hm, lm, hT, k⟩ := h
    have hu : (A.deeper (envOfC "_law_due" (defScope s_L_due) s.heap.objs.size (He.fAd K ("_law_due", none)) (.ref (He.codeOf K ("_law_due", none))))).units + 1 < cLine := by have := hr.units; omega
    refine ⟨_, PSs.nox (pss_cons (ps_par (i := 3) (j := 4) rfl scDue.nd rfl rfl (by decide) rfl rfl (pa_cons (pe_callTy (call_dictP rfl) rfl zd PyProof.Rows.boot_dict (pa_cons (pe_lc (own := [("_law_word", 2)]) (g := gName 2) (te := tePt) (by rfl) scDue.nd (pi_list (pv 0)) (blkOk_by (own := [("_law_word", 2)]) (N := NDU) (sc := defScope s_L_due) (by decide +kernel)) (fun _ _ _ _ _ => pg_name (i := 2) scDue.nd rfl (Or.inl rfl)) (fun _ _ _ _ _ => pts_nil)
            (fun _ _ _ _ _ => by exact pe_tup (pa_cons (pv 2) (pa_cons pe_bl pa_nil)))) pa_nil)) (pa_cons (pe_lst pa_nil) pa_nil)) (by rfl))
      (pss_cons (ps_for PassesOwn.never rfl (pi_enumA rfl zE (pv 0)) (pg_tup rfl (pgs_cons (pg_name (i := 5) scDue.nd rfl (.inl rfl)) (pgs_cons (pg_name (i := 2) scDue.nd rfl (.inl rfl)) pgs_nil)))
        (pss_one (ps_for PassesOwn.never rfl (pi_zips rfl zz (pa_cons pe_str (pa_cons (pe_ix ix_list (pv 1) (pv 5) (fun _ _ => rfl)) pa_nil))) (pg_tup rfl (pgs_cons (pg_name (i := 6) scDue.nd rfl (.inl rfl)) (pgs_cons (pg_name (i := 7) scDue.nd rfl (.inl rfl)) pgs_nil)))
          (pss_cons (ps_set (i := 8) scDue.nd rfl (.inl rfl) (pe_op op_add_str (pv 2) (pv 6)))
          (pss_one (ps_if (PW.pt (pw_and (pt_cmp (pc_dnotin hu (pv 8) (pv 3)) (by rfl)) (pw_and1 (pt_cmp (pc_din hu (pe_slice sl_str (pv 8) (po_some pe_int) po_none) (pv 3)) (by rfl)))))
            (pss_one (ps_expr (pe_bm PySem.F.plainAttrs_list PySem.F.slot_list_append PySem.F.type_list_append mt_append (pv 4) (pa_cons (pe_tup (pa_cons (pv 8) (pa_cons (pe_ix ix_list (pv 0) (pv 7) (fun _ _ => rfl)) pa_nil))) pa_nil)))) pss_nil))))))
      (pss_one (ps_ret (pe_sortedLam2 (k := 1) (T := Tbs K) hr rfl zs zn rfl (by decide) TB rfl List.mem_cons_self (fun p hp _ => by rw [List.mem_singleton.mp hp]; rfl) (pv 4) (fun _ _ _ _ _ => rfl)))))), ?_⟩
    obtain ⟨as, hrow, la, erow⟩ := R.ex
    have f5 := FO.2.2.2.2
    have n2 := FO.2.1
    have w6 := FO.2.2.2.1
    have wl : (Mon.wordTab m).length = rows.length := by rw [Mon.word_len, lm]
    -- the known words
    refine ⟨_, rfl, lw, rfl, ⟨_, hW⟩, fun D nD => ?_⟩
    refine lc_list (K := K) (a := lw) (xs := (Mon.wordTab m).map wv) (fun c Hd => But D H Hd ∧ ∃ ps : List Addr, Hd D = some (.lst (ps.map V.ref)) ∧ ps.length = c ∧ ∀ (j : Nat) a u, ps[j]? = some a → (Mon.wordTab m)[j]? = some u → Hd a = some (.tup [wv u, .bl true])) ⟨But.upd, [], upd_same, rfl, fun j a u h => by simp at h⟩
      (fun c Hd _ ⟨bd, _⟩ => L2.Same.seq (Same.but (L2.Same.refl _) nD bd) hW) (fun c y Hd hy ⟨bd, ps, hD, lp, ep⟩ => ?_) (fun Hd ⟨bd, ps, hD, lp, ep⟩ => ?_)
    · obtain ⟨u, hu', rfl⟩ := map_get hy
      have cl := get_lt hu'
      refine ⟨rfl, yesT ?_⟩
      refine ⟨_, rfl, (by show 2 ≤ sizeLine; decide), fun t nt => ?_⟩
      have u1 := same_upd (o := .tup [wv u, V.bl true]) nt
      refine ⟨_, u1 _ _ hD, by rw [List.length_map, lp]; show c < 16777216; omega, bd.trans ((But.of u1).trans But.upd), ps ++ [t], by rw [upd_same]; simp, by simp [lp], fun j a v h1 h2 => ?_⟩
      have f : L2.upd Hd t (.tup [wv u, V.bl true]) a = some (.tup [wv v, .bl true]) := by
        rcases Mon.snoc_cases h1 with h1 | ⟨e1, rfl⟩
        · exact u1 _ _ (ep j a v h1 h2)
        · rw [lp] at e1
          subst e1
          rw [hu'] at h2
          cases h2
          exact upd_same
      rw [upd_ne (fun z => by rw [z, u1 _ _ hD] at f; cases f)]
      exact f
    · have sd := Same.but (L2.Same.refl _) nD bd
      rw [List.length_map] at lp
      refine ⟨D, ps, (Mon.wordTab m).map fun u => (sk u, V.bl true), rfl, SqL.of hD, ?_, fun d nd => ?_⟩
      · exact paired_of (F := fun (p : Addr) (kv : Key × V) => SqT K Hd p [kV kv.1, kv.2]) (g := fun u => (sk u, V.bl true)) (by omega) fun j a u h1 h2 => SqT.of (ep j a u h1 h2)
      have u1 := same_upd (o := .dK (knw [] (Mon.wordTab m))) nd
      have hd1 : L2.upd Hd d (.dK (knw [] (Mon.wordTab m))) d = some (.dK (knw [] (Mon.wordTab m))) := upd_same
      have s1 := sd.trans u1
      have nd0 := nil_of sd nd
      have edk : L2.upd Hd d (.dK (mergeK [] ((Mon.wordTab m).map fun u => (sk u, V.bl true)))) = L2.upd Hd d (.dK (knw [] (Mon.wordTab m))) := rfl
      rw [edk]
      generalize L2.upd Hd d (.dK (knw [] (Mon.wordTab m))) = H1 at s1 hd1 ⊢
      clear u1 nd sd bd hD ep nD edk
      refine ⟨(by show 0 ≤ sizeLine; decide), fun B nB => ⟨_, _, rfl, ?_⟩⟩
      have u2 := same_upd (o := .lst []) nB
      have nB0 := nil_of s1 nB
      have s2 := s1.trans u2
      have hd2 := u2 _ _ hd1
      have P2 : Prw (L2.upd H1 B (.lst [])) B [] (((List.range 0).flatMap fun i => (List.range wd).flatMap (dueAt rows m i)) ++ (List.range 0).flatMap (dueAt rows m 0)) := Prw.nil upd_same
      have nBd : d ≠ B := fun z => by rw [← z, hd1] at nB; cases nB
      generalize L2.upd H1 B (.lst []) = H2 at s2 hd2 P2 ⊢
      clear u2 nB s1 hd1
      refine ⟨_, rfl, lw, _, rfl, .inl ⟨L2.Same.seq s2 hW, ?_⟩⟩
      have wk : Walk (Ite K lw) ((Mon.wordTab m).map wv).length (fun H2 => Same H H2) (fun i H v H' => ∃ T x, v = .ref T ∧ H T = none ∧ H' = L2.upd H T (.tup [.int (i : Nat), x]) ∧ ((Mon.wordTab m).map wv)[i]? = some x) := (walk_enumL (xs := (Mon.wordTab m).map wv)).mono (fun H s => L2.Same.seq s hW) (fun i H x H' _ _ y => y)
      refine for_it wk (fun i σ Hc => ∃ (v2 v5 v6 v7 v8 : Option V) (prs : List Addr), σ = [some (.ref lw), some (.ref pt), v2, some (.ref d), some (.ref B), v5, v6, v7, v8] ∧ Same H Hc ∧ Hc d = some (.dK (knw [] (Mon.wordTab m))) ∧ Prw Hc B prs (((List.range i).flatMap fun i => (List.range wd).flatMap (dueAt rows m i)) ++ (List.range 0).flatMap (dueAt rows m i)))
        ⟨none, none, none, none, none, [], rfl, s2, hd2, P2⟩ (fun i σ Hc _ ⟨_, _, _, _, _, _, _, s, _⟩ => s) (fun i x σ Hc Hc' hi ⟨v2, v5, v6, v7, v8, prs, eσ, sc, hdc, PR⟩ ⟨T', y, ey, nT, eH, hy⟩ => ?_) (fun σ Hc ⟨v2, v5, v6, v7, v8, prs, eσ, sc, hdc, PR⟩ => ?_)
      · subst eσ ey eH
        obtain ⟨u, hu', rfl⟩ := map_get hy
        have il : i < rows.length := by have := get_lt hu'; omega
        have eu : Mon.W m i = u := Mon.getD_of hu'
        obtain ⟨ar, har⟩ := lt_get (show i < as.length by omega)
        obtain ⟨ri, hri⟩ := lt_get il
        obtain ⟨l1, l2⟩ := f5 ri (List.mem_of_getElem? hri)
        have sar := erow i ar ri har hri
        refine ⟨T', _, rfl, SqT.of upd_same, rfl, _, _, rfl, _, _, rfl, rfl, ?_⟩
        have u5 := same_upd (o := .tup [.int (i : Nat), wv u]) nT
        have s5 := sc.trans u5
        have hd5 := u5 _ _ hdc
        have PR5 := PR.same u5
        generalize L2.upd Hc T' (.tup [.int (i : Nat), wv u]) = H5 at s5 hd5 PR5 ⊢
        clear u5 nT
        have wk2 : Walk (Itzs K ("abcdef" : Str) ar) (ri.map nv).length (fun H2 => Same H H2) (fun i H v H' => ∃ (T : Addr) (c : Nat) (y : V), v = .ref T ∧ H T = none ∧ H' = L2.upd H T (.tup [.str ⟨#[c]⟩, y]) ∧ ("abcdef" : Str).cps[i]? = some c ∧ (ri.map nv)[i]? = some y) :=
          (walk_zips (x := ("abcdef" : Str)) (ys := ri.map nv) (by rw [List.length_map]; show ri.length ≤ 6; omega)).mono (fun H s => L2.Same.seq s sar) (fun i H x H' _ _ y => y)
        refine ⟨_, rfl, _, rfl, pt, _, _, .ref ar, rfl, rfl, L2.Same.seq s5 hrow, atI_nat (get_map har), _, ar, ri.map nv, rfl, L2.Same.seq s5 sar, ?_⟩
        refine for_it wk2 (fun c σ Hd => ∃ (v6 v7 v8 : Option V) (prs : List Addr), σ = [some (.ref lw), some (.ref pt), some (wv u), some (.ref d), some (.ref B), some (nv i), v6, v7, v8] ∧ Same H Hd ∧ Hd d = some (.dK (knw [] (Mon.wordTab m))) ∧ Prw Hd B prs (((List.range i).flatMap fun i => (List.range wd).flatMap (dueAt rows m i)) ++ (List.range c).flatMap (dueAt rows m i)))
          ⟨v6, v7, v8, prs, rfl, s5, hd5, PR5⟩ (fun c σ Hd _ ⟨_, _, _, _, _, s, _⟩ => s) (fun c x σ Hd Hd' hc ⟨v6, v7, v8, prs, eσ, sd, hdd, PRd⟩ ⟨T2, cc, y, ey, nT2, eH, hcc, hy⟩ => ?_) (fun σ Hd ⟨v6, v7, v8, prs, eσ, sd, hdd, PRd⟩ => ?_)
        · subst eσ ey eH
          obtain ⟨t, ht, rfl⟩ := map_get hy
          have cl' := get_lt ht
          have cw : c < wd := by omega
          have c6 := letter_at (show c < 6 by omega) hcc
          subst c6
          have et : Mon.stp rows i c = t := by
            unfold Mon.stp
            rw [Mon.getD_of hri, Mon.getD_of ht]
          have eS : ∀ L : List (List Nat × List Nat), L ++ (List.range (c + 1)).flatMap (dueAt rows m i) = (L ++ (List.range c).flatMap (dueAt rows m i)) ++ dueAt rows m i c := fun L => by
            rw [List.range_succ, List.flatMap_append, ← List.append_assoc]
            simp
          obtain ⟨wt, hwt⟩ := lt_get (show t < (Mon.wordTab m).length by have := l2 t (List.mem_of_getElem? ht); omega)
          have lu := word_short (List.mem_of_getElem? hu')
          refine ⟨T2, _, rfl, SqT.of upd_same, rfl, _, _, rfl, _, _, rfl, rfl, ?_⟩
          have u7 := same_upd (o := .tup [.str ⟨#[97 + c]⟩, nv t]) nT2
          have s7 := sd.trans u7
          have hd7 := u7 _ _ hdd
          have PR7 := PRd.same u7
          generalize L2.upd Hd T2 (.tup [.str ⟨#[97 + c]⟩, nv t]) = H7 at s7 hd7 PR7 ⊢
          clear u7 nT2 PRd hdd sd
          refine ⟨_, rfl, _, rfl, ws u, ⟨#[97 + c]⟩, rfl, rfl, (by rw [ws_len]; show u.length + 1 ≤ 16777216; omega), ?_⟩
          rw [ws_app]
          refine ⟨_, rfl, _, rfl, d, valV (knw [] (Mon.wordTab m)) (sk (u ++ [c])), rfl, DGet.k (k := sk (u ++ [c])) hd7, ?_⟩
          rw [knw_val]
          by_cases hin : u ++ [c] ∈ Mon.wordTab m
          · rw [if_pos hin]
            refine ⟨_, rfl, ifF rfl ?_⟩
            refine ⟨_, _, _, prs, rfl, s7, hd7, ?_⟩
            rw [eS, show dueAt rows m i c = [] by unfold dueAt; rw [eu, if_neg (fun z => z.1 hin)], List.append_nil]
            exact PR7
          · rw [if_neg hin]
            refine ⟨_, rfl, ifT rfl ?_⟩
            refine ⟨_, rfl, 1, rfl, ws (u ++ [c]), rfl, (by rw [ws_len, List.length_append]; show u.length + 1 ≤ 16777216; omega), ?_⟩
            rw [cut_tail]
            refine ⟨_, rfl, d, valV (knw [] (Mon.wordTab m)) (sk (u ++ [c]).tail), rfl, DGet.k (k := sk (u ++ [c]).tail) hd7, ?_⟩
            rw [knw_val]
            by_cases htl : (u ++ [c]).tail ∈ Mon.wordTab m
            · rw [if_pos htl]
              refine ⟨_, rfl, ifT rfl ?_⟩
              have hR : dueAt rows m i c = [(u ++ [c], wt)] := by
                unfold dueAt
                rw [eu, if_pos ⟨hin, htl⟩, et]
                unfold Mon.W
                rw [Mon.getD_of hwt]
              refine ⟨_, rfl, .inl ⟨rfl, _, SqL.of PR7.at'⟩, _, rfl, _, rfl, _, rfl, lw, _, _, wv wt, rfl, rfl, L2.Same.seq s7 hW, atI_nat (get_map hwt), (by show 2 ≤ sizeLine; decide), fun t' nt' => ?_⟩
              have u9 := same_upd (o := .tup [V.str (ws (u ++ [c])), wv wt]) nt'
              refine ⟨B, _, _, rfl, rfl, u9 _ _ PR7.at', ?_, ?_⟩
              · rw [List.length_map, PR7.len]
                have := due_few (rows := rows) (m := m) (wd := wd) i c
                have h2 : i * wd ≤ 2000 * 6 := Nat.mul_le_mul (by omega) w6
                show _ < 16777216
                omega
              · refine ⟨_, _, _, prs ++ [t'], rfl, fun b o e => ?_, ?_, ?_⟩
                · rw [upd_ne (ne_of_none e nB0)]
                  exact u9 _ _ (s7 b o e)
                · rw [upd_ne nBd]
                  exact u9 _ _ hd7
                · rw [eS, hR]
                  exact (PR7.same u9).add (q := (u ++ [c], wt)) upd_same
            · rw [if_neg htl]
              refine ⟨_, rfl, ifF rfl ?_⟩
              refine ⟨_, _, _, prs, rfl, s7, hd7, ?_⟩
              rw [eS, show dueAt rows m i c = [] by unfold dueAt; rw [eu, if_neg (fun z => htl z.2)], List.append_nil]
              exact PR7
        · subst eσ
          have e1 : (List.range (i + 1)).flatMap (fun i => (List.range wd).flatMap (dueAt rows m i)) ++ (List.range 0).flatMap (dueAt rows m (i + 1)) = (List.range i).flatMap (fun i => (List.range wd).flatMap (dueAt rows m i)) ++ (List.range (ri.map nv).length).flatMap (dueAt rows m i) := by
            rw [List.range_succ, List.flatMap_append, List.length_map, l1]
            simp
          rw [← e1] at PRd
          exact ⟨_, _, _, _, _, prs, rfl, sd, hdd, PRd⟩
      · subst eσ
        rw [List.length_map, wl] at PR
        have PD : Prw Hc B prs (dueP rows m wd) := by
          unfold dueP
          simpa using PR
        have dl : ∀ q ∈ dueP rows m wd, q.1.length ≤ 1000000 := fun q hq => by
          obtain ⟨i, hi, hq⟩ := List.mem_flatMap.mp hq
          obtain ⟨c, hc, hq⟩ := List.mem_flatMap.mp hq
          unfold dueAt at hq
          split at hq
          · rw [List.mem_singleton.mp hq]
            have := word_short (Mon.mem_W (m := m) (j := i) (by have := List.mem_range.mp hi; omega))
            rw [List.length_append]
            show (Mon.W m i).length + 1 ≤ _
            omega
          · cases hq
        refine ⟨_, rfl, B, b4 prs (dueP rows m wd), rfl, SqL.of (by rw [b4_refs PD.len]; exact PD.at'), b4_el PD, b4_len dl, b4_ord PD.len (due_srt hm lm), hT.ext sc, fun p H7 e7 hT7 ntp hp => ?_⟩
        rw [b4_refs PD.len] at hp
        exact k p prs H7 ((ExtN.of sc).trans e7) hT7 (nt_ext (ExtN.of sc) ntp) ⟨hp, PD.len, fun j a q h1 h2 => e7 _ _ (PD.el j a q h1 h2) (fun ps z => by cases z)⟩
end
end K18

set_option Elab.async false
set_option linter.all false
set_option maxRecDepth 100000
set_option maxHeartbeats 8000000
namespace K18
open PySem PySem.Spec PyProof.Rows L2 Lf LamX
/-- the shorter parts of a word -/
def partsAt (u : List Nat) (b n : Nat) : List (List Nat) := ((List.range n).filter fun k => decide (k < u.length)).map fun k => (u.drop b).take k
def partsP (u : List Nat) : List (List Nat) := (List.range u.length).flatMap fun b => partsAt u b (u.length + 1 - b)
theorem cut_part {u : List Nat} {b k : Nat} (h : b + k ≤ u.length) : cutS (ws u) (some (b : Nat)) (some ((b : Int) + (k : Nat))) = ws ((u.drop b).take k) := by
  have l : (ws u).length = u.length := ws_len
  have e1 : HT.sIx (ws u).length 0 (some ((b : Nat) : Int)) = b := by rw [HT.sIx_nat]; omega
  have e2 : HT.sIx (ws u).length (ws u).length (some ((b : Int) + (k : Nat))) = b + k := by
    rw [show (b : Int) + (k : Nat) = ((b + k : Nat) : Int) by omega, HT.sIx_nat]
    omega
  unfold cutS
  rw [e1, e2, Nat.add_sub_cancel_left]
  unfold ws
  simp
def spParts : Sp := fun vs H Q _ => ∃ u : List Nat, vs = [.str (ws u)] ∧ u.length ≤ 100 ∧ ∀ l H', Same H H' → H l = none → H' l = some (.lst ((partsP u).map wv)) → Q (.ref l) H'
abbrev NPA : List Str := ["_law_word", "_law_found", "_law_begin", "_law_end"]
abbrev ttPa : TT := tTest (tOp (rI0 fun i j => .bl (decide (i < j))) (tOp (rI0 fun i j => .int (i - j)) (tVar 3) (tVar 2)) (tCB (fun xs H Q => ∃ z, xs = [V.str z] ∧ z.length ≤ sizeLine ∧ Q (V.int z.length) H) (tCons (tVar 0) tNil)))
abbrev tePa : TE := tSl rSlS (tVar 0) (tPart (tVar 2)) (tPart (tVar 3))
section
variable {P : Program} {w : World} {K : PySem.W.Frag} {mg : Str → Option Value} {base : Heap}
theorem scParts : FnScope NPA ["_law_word"] (defScope s_L_parts) := ⟨rfl, rfl, rfl, by decide +kernel, rfl, by decide +kernel, by decide +kernel⟩
theorem ok_parts {f : Addr} {fd : FuncData} {q : Str} (F : FunD K "_law_parts" q (defArgs s_L_parts) (defBody s_L_parts) (defScope s_L_parts) [] [] f fd) (zr : mg "range" = none) (zn : mg "len" = none) :
    FnOk P w K mg base CX0 1 f fd ["_law_word"] spParts := by
  refine F.ok scParts (fun vs H Q E h => ?_) (fun cdv A outer s H vs Q E hr h => ?_)
  · obtain ⟨u, rfl, _⟩ := h
    rfl
  · obtain ⟨u, rfl, ul, k⟩ := h
    refine ⟨_, PSs.nox (pss_cons (ps_set (i := 1) scParts.nd rfl (.inl rfl) (pe_lst pa_nil))
      (pss_cons (ps_for PassesOwn.never rfl (pi_range1 rfl zr (pa_cons (pe_callB call_len_str rfl zn boot_len (pa_cons (pv 0) pa_nil)) pa_nil)) (pg_name (i := 2) scParts.nd rfl (.inr rfl))
        (pss_one (ps_expr (pe_bm PySem.F.plainAttrs_list PySem.F.slot_list_extend PySem.F.type_list_extend mt_extend (pv 1) (pa_cons (pe_lc (own := [("_law_end", 3)]) (g := gName 3) (tt := ttPa) (te := tePa) (by rfl) scParts.nd (pi_range2 rfl zr (pa_cons (pv 2) (pa_cons (pe_op op_add (pe_callB call_len_str rfl zn boot_len (pa_cons (pv 0) pa_nil)) pe_int) pa_nil))) (blkOk_by (own := [("_law_end", 3)]) (N := NPA) (sc := defScope s_L_parts) (by decide +kernel)) (fun _ _ _ _ _ => pg_name (i := 3) scParts.nd rfl (Or.inl rfl))
            (fun _ _ _ _ _ => by exact pts_one (pt_cmpR op_lt (pe_op op_sub (pv 3) (pv 2)) (pe_callB call_len_str rfl zn boot_len (pa_cons (pv 0) pa_nil)) (nomark _)))
            (fun _ _ _ _ _ => by exact pe_slice sl_str (pv 0) (po_some (pv 2)) (po_some (pv 3)))) pa_nil)))))
      (pss_one (ps_ret (pv 1))))), ?_⟩
    have wl : (ws u).length = u.length := ws_len
    have wz : (ws u).length ≤ sizeLine := by rw [wl]; show u.length ≤ 16777216; omega
    have sm : ∀ i, ((List.range i).flatMap fun b => partsAt u b (u.length + 1 - b)).length ≤ i * 101 := fun i => by
      induction i with
      | zero => simp
      | succ i ih =>
        have one : (partsAt u i (u.length + 1 - i)).length ≤ 101 := by
          unfold partsAt
          rw [List.length_map]
          have := List.length_filter_le (fun k => decide (k < u.length)) (List.range (u.length + 1 - i))
          rw [List.length_range] at this
          omega
        rw [List.range_succ, List.flatMap_append, List.length_append, Nat.succ_mul]
        simp only [List.flatMap_cons, List.flatMap_nil, List.append_nil]
        omega
    refine ⟨(by show 0 ≤ sizeLine; decide), fun l nl => ?_⟩
    have s1 := same_upd (o := .lst []) nl
    have nl0 := nl
    have hl : L2.upd H l (.lst []) l = some (.lst (((List.range 0).flatMap fun b => partsAt u b (u.length + 1 - b)).map wv)) := upd_same
    generalize L2.upd H l (.lst []) = H1 at s1 hl ⊢
    clear nl
    refine ⟨_, rfl, ws u, rfl, wz, ((u.length : Nat) : Int), by rw [wl], by omega, by omega, ?_⟩
    refine for_range (lo := 0) (n := u.length) (fun b σ Hc => ∃ v2 : Option V, σ = [some (.str (ws u)), some (.ref l), v2, none] ∧ Same H Hc ∧ Hc l = some (.lst (((List.range b).flatMap fun b => partsAt u b (u.length + 1 - b)).map wv)))
      ⟨none, rfl, s1, hl⟩ (fun b σ Hc hb ⟨v2, eσ, sc, hlc⟩ => ?_) (fun σ Hc ⟨v2, eσ, sc, hlc⟩ => ?_)
    · subst eσ
      have ei : (0 : Int) + (b : Nat) = (b : Nat) := by omega
      rw [ei]
      refine ⟨_, rfl, .inl ⟨rfl, _, SqL.of hlc⟩, ?_⟩
      refine ⟨_, rfl, _, rfl, ws u, rfl, wz, _, _, rfl, rfl, ((b : Nat) : Int), ((u.length + 1 : Nat) : Int), by rw [wl]; rfl, ⟨by omega, by omega, by omega, by omega⟩, fun D nD => ?_⟩
      have en : ((((u.length + 1 : Nat) : Int) - ((b : Nat) : Int)).toNat) = u.length + 1 - b := by omega
      rw [en]
      refine lc_range (lo := ((b : Nat) : Int)) (n := u.length + 1 - b) (fun k Hd => But D Hc Hd ∧ Hd D = some (.lst ((partsAt u b k).map wv))) ⟨But.upd, upd_same⟩ (fun k Hd hk ⟨bd, hD⟩ => ?_) (fun Hd ⟨bd, hD⟩ => ?_)
      · have eP : partsAt u b (k + 1) = partsAt u b k ++ if k < u.length then [(u.drop b).take k] else [] := by
          unfold partsAt
          rw [List.range_succ, List.filter_append, List.map_append]
          congr 1
          by_cases h : k < u.length
          · simp [h]
          · simp [h]
        refine ⟨rfl, ?_⟩
        refine ⟨_, rfl, _, rfl, _, _, rfl, rfl, _, rfl, ws u, rfl, wz, _, _, rfl, rfl, _, rfl, ?_⟩
        rw [eP]
        by_cases h : k < u.length
        · refine ifT (decide_eq_true (by rw [wl]; omega)) ?_
          refine ⟨_, rfl, _, rfl, _, rfl, _, rfl, _, rfl, ws u, rfl, wz, ?_⟩
          rw [cut_part (by omega), if_pos h]
          refine ⟨_, hD, ?_, bd.trans But.upd, by rw [upd_same, List.map_append]; rfl⟩
          rw [List.length_map]
          have := List.length_filter_le (fun k => decide (k < u.length)) (List.range k)
          rw [List.length_range] at this
          unfold partsAt
          rw [List.length_map]
          show _ < 16777216
          omega
        · refine ifF (decide_eq_false (by rw [wl]; omega)) ?_
          rw [if_neg h, List.append_nil]
          exact ⟨bd, hD⟩
      · have sd := Same.but (L2.Same.refl _) nD bd
        have nDl : D ≠ l := fun z => by rw [z, hlc] at nD; cases nD
        refine ⟨l, D, _, _, rfl, rfl, sd _ _ hlc, hD, ?_, _, rfl, fun b' o e => ?_, ?_⟩
        · rw [List.length_map, List.length_map]
          have h1 := sm b
          have h2 := List.length_filter_le (fun k => decide (k < u.length)) (List.range (u.length + 1 - b))
          rw [List.length_range] at h2
          have h3 : (partsAt u b (u.length + 1 - b)).length ≤ 101 := by unfold partsAt; rw [List.length_map]; omega
          show _ ≤ 16777216
          omega
        · rw [upd_ne (ne_of_none e nl0)]
          exact sd _ _ (sc _ _ e)
        · rw [upd_same, List.range_succ, List.flatMap_append, List.map_append]
          simp
    · subst eσ
      exact ⟨_, rfl, k l Hc sc nl0 hlc⟩
end
end K18

set_option Elab.async false
set_option linter.all false
set_option maxRecDepth 100000
set_option maxHeartbeats 4000000
/-! dict(zip(a list of tuples, range(n))): a range drawn from, a zip whose pair is still out, over iterators of any kind. -/
namespace Lf
open PySem PySem.Spec PyProof.Rows L2
section
variable {prog : Program} {w : World} {A : Around} {E : Value → Shared → Prop} {s : Shared}
theorem nextOf_range_item {it : Addr} {x left step : Int} {Q : Value → Shared → Prop} (hit : IsRangeIter s.heap it x left step) (hleft : 0 < left)
    (hQ : ∀ h', IsRangeIter h' it (x + step) (left - 1) step → Heap.SameBut it s.heap h' → Q (.int x s.toks) { s with heap := h', toks := s.toks + 1 }) :
    wpAny (model prog w) A (Builtin.SmallTypes.nextOf (.ref it)) Q E s := by
  unfold Builtin.SmallTypes.nextOf
  exact wpAny_bind (CpRep.range_item hit hleft fun h' a b => wpAny_pure (hQ h' a b))
theorem nextOf_range_end {it : Addr} {x left step : Int} {Q : Value → Shared → Prop} (hh : A.handled = none) (hit : IsRangeIter s.heap it x left step) (hleft : left ≤ 0)
    (hE : ∀ h' e, Heap.ExtBut it s.heap h' → (∃ o, h'.get? e = some o ∧ o.cls = .type "StopIteration") → E (.ref e) { s with heap := h' }) : wpAny (model prog w) A (Builtin.SmallTypes.nextOf (.ref it)) Q E s := by
  unfold Builtin.SmallTypes.nextOf
  refine wpAny_bind (CpRep.range_end hh hit hleft fun e h' st ex => ?_)
  obtain ⟨a, o, vs, rfl, ho, hc, _⟩ := st
  exact hE h' a ex ⟨o, ho, hc⟩
theorem draws_range (hh : A.handled = none) (it : Addr) (n : Nat) :
    Draws prog w A it [it] n (fun i v => ∃ t, v = .int (i : Nat) t) (fun i h => IsRangeIter h it ((i : Nat) : Int) ((n : Int) - (i : Nat)) 1) where
  live := fun _ _ st => ⟨_, st⟩
  frame := fun _ _ _ st hk => hk it (by simp) _ st
  item := fun i s Q E hi st hQ => by
    refine nextOf_range_item st (by omega) fun h' hit' hs' => ?_
    refine hQ _ h' (s.toks + 1) ⟨_, rfl⟩ ?_ hs'
    have e1 : ((i : Nat) : Int) + 1 = ((i + 1 : Nat) : Int) := by omega
    have e2 : (n : Int) - (i : Nat) - 1 = (n : Int) - ((i + 1 : Nat) : Int) := by omega
    rw [e1, e2] at hit'
    exact hit'
  done := fun s Q E st hE => nextOf_range_end hh st (by omega) hE
theorem begins_range (r : Addr) (n : Nat) (t u v : Tok) (hn : n < 2 ^ 62) : Begins (.ref r) { cls := .type "range_iterator", data := .fields #[rawInt 0, rawInt ((n : Nat) : Int), rawInt 1] } fun h => IsRange h r 0 ((n : Nat) : Int) 1 t u v where
  iter := fun prog w A E s Q hr h => by
    refine wpAny_pyIter_range hr (small_one (by omega) (by omega) (by omega) (by omega)) ?_
    rw [rangeSize_nat, show ((((n : Nat) : Int) - 0).toNat : Int) = ((n : Nat) : Int) by omega]
    exact h
  keeps := fun h h' x hk => hk r _ x
  free := rfl
variable {z TI TO i1 i2 : Addr} {fp1 fp2 : List Addr} {n1 n2 i : Nat} {P1 P2 : Nat → Value → Prop} {St1 St2 : Nat → Heap → Prop}
theorem held_next_item {T : Addr} {f : Bool} {oT : Obj} {Q : Value → Shared → Prop} (S : ZipSep2 z TI TO i1 i2 fp1 fp2) (D1 : Draws prog w A i1 fp1 n1 P1 St1) (D2 : Draws prog w A i2 fp2 n2 P2 St2)
    (hz : IsZipHeld s.heap z TI TO T f) (hT : s.heap.get? T = some oT) (hTI : IsTupOf2 s.heap TI (.ref i1) (.ref i2)) (st1 : St1 i s.heap) (st2 : St2 i s.heap) (hlt1 : i < n1) (hlt2 : i < n2)
    (hQ : ∀ x1 x2 h' tk, P1 i x1 → P2 i x2 → IsZipHeld h' z TI TO T true → St1 (i + 1) h' → St2 (i + 1) h' → IsTupOf2 h' s.heap.objs.size x1 x2 → h'.objs.size = s.heap.objs.size + 1 →
      (∀ c o, c ≠ z → c ≠ i1 → c ≠ i2 → s.heap.get? c = some o → h'.get? c = some o) → Q (.ref s.heap.objs.size) { s with heap := h', toks := tk }) :
    wpAny (model prog w) A (Builtin.«zip.__next__» ⟨[.ref z], []⟩) (fun fin s' => ∃ v, fin = .done (.ret v) ∧ Q v s') E s := by
  obtain ⟨hp, g, d, tk0, os⟩ := s
  show wpAny _ _ (field (.ref z) 2 >>= _) _ _ _
  refine wpAny_bind (wpAny_field hz rfl (x := .bool false) rfl ?_)
  show wpAny _ _ (field (.ref z) 3 >>= _) _ _ _
  refine wpAny_bind (wpAny_field hz rfl (x := .ref TI) rfl ?_)
  refine wpAny_bind (wpAny_seqItems hTI rfl ?_)
  show wpAny _ _ (Builtin.SmallTypes.ownedTupleIsFree (.ref z) >>= _) _ _ _
  refine wpAny_bind (wpAny_tupleHeld_zip hz hT fun h₁ hz₁ hs₁ => ?_)
  replace hs₁ : Heap.SameBut z hp h₁ := hs₁
  simp only [Bool.false_eq_true, if_false]
  refine wpAny_bind ?_
  rw [← Array.forIn_toList]
  simp only [List.forIn_cons, List.forIn_nil]
  refine wpAny_bind (wpAny_bind (wpAny_holding ?_))
  show wpAny _ _ (Builtin.SmallTypes.nextOf (.ref i1) >>= _) _ _ ⟨h₁, g, d, tk0, os⟩
  refine wpAny_bind (D1.item i _ _ _ hlt1 (D1.over st1 hs₁ S.zf1) fun x1 h₂ tk1 hx1 sn1 hs₂ => wpAny_pure ?_)
  replace hs₂ : Heap.SameBut i1 h₁ h₂ := hs₂
  refine wpAny_pure ?_
  refine wpAny_bind (wpAny_bind (wpAny_holding ?_))
  show wpAny _ _ (Builtin.SmallTypes.nextOf (.ref i2) >>= _) _ _ ⟨h₂, g, d, tk1, os⟩
  refine wpAny_bind (D2.item i _ _ _ hlt2 (D2.over (D2.over st2 hs₁ S.zf2) hs₂ S.sep1_2) fun x2 h₃ tk2 hx2 sn2 hs₃ => wpAny_pure ?_)
  replace hs₃ : Heap.SameBut i2 h₂ h₃ := hs₃
  refine wpAny_pure (wpAny_pure ?_)
  show wpAny _ _ (newTuple [x1, x2] >>= _) _ _ _
  refine wpAny_bind (wpAny_newTuple ?_)
  have hsz : h₃.objs.size = hp.objs.size := by rw [hs₃.1, hs₂.1, hs₁.1]
  have hz₃ : IsZipHeld h₃ z TI TO T true := hs₃.extBut _ _ S.zi2 (hs₂.extBut _ _ S.zi1 hz₁)
  have hk : ∀ c o, c ≠ z → c ≠ i1 → c ≠ i2 → hp.get? c = some o → h₃.get? c = some o := fun c o c1 c2 c3 e => hs₃.extBut _ _ c3 (hs₂.extBut _ _ c2 (hs₁.extBut _ _ c1 e))
  have h1₃ : St1 (i + 1) h₃ := D1.over sn1 hs₃ S.sep2_1
  refine wpAny_pure ⟨_, rfl, ?_⟩
  show Q (.ref h₃.objs.size) _
  have hp' : IsTupOf2 (h₃.push { cls := .type "tuple", data := .seq #[x1, x2] }) h₃.objs.size x1 x2 := Heap.get?_push_size _ rfl
  have hz4 : (h₃.push { cls := .type "tuple", data := .seq #[x1, x2] }).objs.size = h₃.objs.size + 1 := Heap.size_push ..
  rw [hsz] at hp' hz4 ⊢
  exact hQ x1 x2 _ tk2 hx1 hx2 (Heap.get?_push_of_some _ hz₃) (D1.frame _ _ _ h1₃ fun b hb o e => Heap.get?_push_of_some _ e) (D2.frame _ _ _ sn2 fun b hb o e => Heap.get?_push_of_some _ e) hp' hz4 fun c o c1 c2 c3 e => Heap.get?_push_of_some _ (hk c o c1 c2 c3 e)
theorem held_next_end {T : Addr} {f : Bool} {oT : Obj} {Q : Fin → Shared → Prop} (S : ZipSep2 z TI TO i1 i2 fp1 fp2) (D1 : Draws prog w A i1 fp1 n1 P1 St1) (D2 : Draws prog w A i2 fp2 n2 P2 St2)
    (hz : IsZipHeld s.heap z TI TO T f) (hT : s.heap.get? T = some oT) (hTI : IsTupOf2 s.heap TI (.ref i1) (.ref i2)) (st1 : St1 i s.heap) (st2 : St2 i s.heap) (hi1 : i = n1)
    (hE : ∀ h' tk e, (∀ c o, c ≠ z → c ≠ i1 → c ≠ i2 → s.heap.get? c = some o → h'.get? c = some o) → (∃ o, h'.get? e = some o ∧ o.cls = .type "StopIteration") → E (.ref e) { s with heap := h', toks := tk }) :
    wpAny (model prog w) A (Builtin.«zip.__next__» ⟨[.ref z], []⟩) Q E s := by
  obtain ⟨hp, g, d, tk0, os⟩ := s
  show wpAny _ _ (field (.ref z) 2 >>= _) _ _ _
  refine wpAny_bind (wpAny_field hz rfl (x := .bool false) rfl ?_)
  show wpAny _ _ (field (.ref z) 3 >>= _) _ _ _
  refine wpAny_bind (wpAny_field hz rfl (x := .ref TI) rfl ?_)
  refine wpAny_bind (wpAny_seqItems hTI rfl ?_)
  show wpAny _ _ (Builtin.SmallTypes.ownedTupleIsFree (.ref z) >>= _) _ _ _
  refine wpAny_bind (wpAny_tupleHeld_zip hz hT fun h₁ hz₁ hs₁ => ?_)
  replace hs₁ : Heap.SameBut z hp h₁ := hs₁
  simp only [Bool.false_eq_true, if_false]
  refine wpAny_bind ?_
  rw [← Array.forIn_toList]
  simp only [List.forIn_cons, List.forIn_nil]
  refine wpAny_bind (wpAny_bind (wpAny_holding ?_))
  show wpAny _ _ (Builtin.SmallTypes.nextOf (.ref i1) >>= _) _ _ ⟨h₁, g, d, tk0, os⟩
  refine wpAny_bind (D1.done ⟨h₁, g, d, tk0, os⟩ _ _ (by rw [← hi1]; exact D1.over st1 hs₁ S.zf1) fun q e hq he => ?_)
  replace hq : Heap.ExtBut i1 h₁ q := hq
  exact hE q tk0 e (fun c o cz c1 c2 x => hq _ _ c1 (hs₁.extBut _ _ cz x)) he
theorem pyNext_held_item {T : Addr} {f : Bool} {oT : Obj} {Q : Option Value → Shared → Prop} (S : ZipSep2 z TI TO i1 i2 fp1 fp2) (D1 : Draws prog w A.in1 i1 fp1 n1 P1 St1) (D2 : Draws prog w A.in1 i2 fp2 n2 P2 St2)
    (hz : IsZipHeld s.heap z TI TO T f) (hT : s.heap.get? T = some oT) (hTI : IsTupOf2 s.heap TI (.ref i1) (.ref i2)) (st1 : St1 i s.heap) (st2 : St2 i s.heap) (hlt1 : i < n1) (hlt2 : i < n2)
    (hQ : ∀ x1 x2 h' tk, P1 i x1 → P2 i x2 → IsZipHeld h' z TI TO T true → St1 (i + 1) h' → St2 (i + 1) h' → IsTupOf2 h' s.heap.objs.size x1 x2 → h'.objs.size = s.heap.objs.size + 1 →
      (∀ c o, c ≠ z → c ≠ i1 → c ≠ i2 → s.heap.get? c = some o → h'.get? c = some o) → Q (some (.ref s.heap.objs.size)) { s with heap := h', toks := tk }) :
    wpAny (model prog w) A (pyNext (.ref z)) Q E s := by
  have hTy : s.TypeIs (.ref z) "zip" := ⟨_, hz, rfl⟩
  unfold pyNext
  exact wpAny_bind (wpAny_attempt (wpAny_callSpecial?_slot (name := Str.ofString "__next__") hTy F.slot_zip_next
    (wpAny_call_entry F.slot_zip_next hTy F.entry_zip_next
      (held_next_item S D1 D2 hz hT hTI st1 st2 hlt1 hlt2 fun x1 x2 h' tk a1 a2 a3 a4 a5 a6 a7 a8 => wpAny_pure (hQ x1 x2 h' tk a1 a2 a3 a4 a5 a6 a7 a8)) (F.args_zip_next_1 _))))
theorem pyNext_held_end {T : Addr} {f : Bool} {oT : Obj} {Q : Option Value → Shared → Prop} (S : ZipSep2 z TI TO i1 i2 fp1 fp2) (D1 : Draws prog w A.in1 i1 fp1 n1 P1 St1) (D2 : Draws prog w A.in1 i2 fp2 n2 P2 St2)
    (hz : IsZipHeld s.heap z TI TO T f) (hT : s.heap.get? T = some oT) (hTI : IsTupOf2 s.heap TI (.ref i1) (.ref i2)) (st1 : St1 i s.heap) (st2 : St2 i s.heap) (hi1 : i = n1)
    (hQ : ∀ h' tk, (∀ c o, c ≠ z → c ≠ i1 → c ≠ i2 → s.heap.get? c = some o → h'.get? c = some o) → Q none { s with heap := h', toks := tk }) : wpAny (model prog w) A (pyNext (.ref z)) Q E s := by
  have hTy : s.TypeIs (.ref z) "zip" := ⟨_, hz, rfl⟩
  unfold pyNext
  refine wpAny_bind (wpAny_attempt (wpAny_callSpecial?_slot (name := Str.ofString "__next__") hTy F.slot_zip_next
    (wpAny_call_entry F.slot_zip_next hTy F.entry_zip_next (held_next_end S D1 D2 hz hT hTI st1 st2 hi1 fun h' tk e hk he => ?_) (F.args_zip_next_1 _))))
  obtain ⟨o, ho, hc⟩ := he
  refine wpAny_bind (wpAny_isInstance (T := "StopIteration") (b := true) ⟨o, ho, hc⟩ isSubtype_stop ?_)
  exact wpAny_pure (hQ _ _ hk)
end
/-- zip(list, range(n)) as the argument of dict: n items at least in the list -/
theorem pairZipR {prog : Program} {w : World} (z TI TO i1 i2 l : Addr) (S : ZipSep2 z TI TO i1 i2 [i1, l] [i2]) (xs : Array Value) (n : Nat) (hn : n = xs.size) :
    PairArg prog w "zip" z [z, TI, TO, i1, i2, l] [z, TO, i1, i2] n (fun i k v => xs[i]? = some k ∧ ∃ t, v = .int (i : Nat) t)
      (fun h => IsZip h z TI TO .none ∧ IsTupOf2 h TI (.ref i1) (.ref i2) ∧ (∃ a b, IsTupOf2 h TO a b) ∧ (h.IsListIter i1 l 0 ∧ h.IsList l xs) ∧ IsRangeIter h i2 0 ((n : Nat) : Int) 1) where
  type := fun s ok => ⟨_, ok.1, rfl⟩
  notDict := by decide
  keep := fun h h' ok hk => by
    obtain ⟨hz, hTI, ⟨a, b, hTO⟩, ⟨h1, hl⟩, h2⟩ := ok
    exact ⟨hk _ _ hz, hk _ _ hTI, ⟨a, b, hk _ _ hTO⟩, ⟨h1.at fun o e => hk _ o e, hl.at fun o e => hk _ o e⟩, hk _ _ h2⟩
  there := fun h ok b hb => by
    obtain ⟨hz, hTI, ⟨a, c, hTO⟩, ⟨⟨o1, h1, _⟩, ⟨o3, hl, _⟩⟩, h2⟩ := ok
    simp only [List.mem_cons, List.not_mem_nil, or_false] at hb
    rcases hb with rfl | rfl | rfl | rfl | rfl | rfl
    all_goals first | exact ⟨_, hz⟩ | exact ⟨_, hTI⟩ | exact ⟨_, hTO⟩ | exact ⟨_, h1⟩ | exact ⟨_, h2⟩ | exact ⟨_, hl⟩
  sub := fun b hb => by simp at hb ⊢; rcases hb with rfl | rfl | rfl | rfl <;> simp
  noKeys := fun A s Q E hA ok h => getAttrOr_miss_zip ok.1 rfl rfl rfl zip_no_keys (by decide +kernel) hA h
  iter := fun A s d Q E hA ok hd hdf h => by
    obtain ⟨hz, hTI, ⟨a, b, hTO⟩, ⟨h1, hl⟩, h2⟩ := ok
    simp only [List.mem_cons, List.not_mem_nil, or_false, not_or] at hdf
    obtain ⟨dz, dTI, dTO, di1, di2, dl⟩ := hdf
    have hA1 : A.in1.handled = none := by simp [hA]
    have lz : l ≠ z := fun e => S.zf1 (by simp [e])
    have lTO : l ≠ TO := fun e => S.Tf1 (by simp [e])
    have l1 : l ≠ i1 := by
      intro e
      obtain ⟨o1, e1, c1, _⟩ := h1
      obtain ⟨o3, e3, c3, _⟩ := hl
      rw [e, e1] at e3
      cases e3
      rw [c1] at c3
      simp at c3
    have D1 : Draws prog w A.in1 i1 [i1, l] xs.size (fun i v => xs[i]? = some v) (fun i h => h.IsListIter i1 l i ∧ h.IsList l xs) := Draws.list hA1 i1 l l1 xs
    have D2 := draws_range (prog := prog) (w := w) hA1 i2 n
    refine wpAny_pyIter_zip hz (h z [z, TO, i1, i2] (fun i h => IsTupOf2 h TI (.ref i1) (.ref i2) ∧ (h.IsListIter i1 l i ∧ h.IsList l xs) ∧ IsRangeIter h i2 ((i : Nat) : Int) ((n : Int) - (i : Nat)) 1 ∧
      ((IsZip h z TI TO .none ∧ ∃ a b, IsTupOf2 h TO a b) ∨ ∃ T f oT, IsZipHeld h z TI TO T f ∧ h.get? T = some oT ∧ T ≠ z ∧ T ≠ i1 ∧ T ≠ i2 ∧ T ≠ d)) s.heap s.toks ?_
      ⟨hTI, ⟨h1, hl⟩, (by simpa using h2), .inl ⟨hz, a, b, hTO⟩⟩ (fun _ _ e => e) fun b hb => .inl hb)
    exact {
      off := fun hm => by
        simp only [List.mem_cons, List.not_mem_nil, or_false] at hm
        rcases hm with e | e | e | e
        · exact dz e
        · exact dTO e
        · exact di1 e
        · exact di2 e
      frame := fun i h₁ h₂ st hk => by
        obtain ⟨hTI, ⟨h1, hl⟩, h2, hz⟩ := st
        refine ⟨hk _ _ (Ne.symm dTI) hTI, ⟨h1.at fun o e => hk _ o (Ne.symm di1) e, hl.at fun o e => hk _ o (Ne.symm dl) e⟩, hk _ _ (Ne.symm di2) h2, ?_⟩
        rcases hz with ⟨hz, a, b, hTO⟩ | ⟨T, f, oT, hz, hT, r1, r2, r3, r4⟩
        · exact .inl ⟨hk _ _ (Ne.symm dz) hz, a, b, hk _ _ (Ne.symm dTO) hTO⟩
        · exact .inr ⟨T, f, oT, hk _ _ (Ne.symm dz) hz, hk _ _ r4 hT, r1, r2, r3, r4⟩
      item := fun i s₁ Q₁ E₁ hi st hds hQ => by
        obtain ⟨hTI, st1, h2, hz⟩ := st
        have lt : ∀ {c o}, s₁.heap.get? c = some o → s₁.heap.objs.size ≠ c := fun e => Nat.ne_of_gt (Heap.lt_size e)
        have n1 : s₁.heap.objs.size ≠ i1 := let ⟨_, e, _⟩ := st1.1; lt e
        have n2 : s₁.heap.objs.size ≠ i2 := lt h2
        rcases hz with ⟨hz, a, b, hTO⟩ | ⟨T, f, oT, hz, hT, r1, r2, r3, r4⟩
        · refine wpAny_pyNext_zipD2_item S D1 D2 hz hTI hTO st1 h2 (by omega) hi fun x1 x2 h' tk y1 y2 b1 b2 d1 d2 b5 b6 hk => ?_
          exact hQ s₁.heap.objs.size _ _ h' tk ⟨y1, y2⟩ (.inl ⟨_, b5, rfl, _, rfl⟩)
            ⟨hk _ _ S.TIz S.TITO S.TIi1 S.TIi2 hTI, d1, d2, .inr ⟨s₁.heap.objs.size, false, _, b1, b5, lt hz, n1, n2, Nat.ne_of_gt hds⟩⟩
            fun c o hc e => hk c o (fun x => hc (by simp [x])) (fun x => hc (by simp [x])) (fun x => hc (by simp [x])) (fun x => hc (by simp [x])) e
        · refine pyNext_held_item S D1 D2 hz hT hTI st1 h2 (by omega) hi fun x1 x2 h' tk y1 y2 b1 d1 d2 b5 b6 hk => ?_
          exact hQ s₁.heap.objs.size _ _ h' tk ⟨y1, y2⟩ (.inl ⟨_, b5, rfl, _, rfl⟩)
            ⟨hk _ _ S.TIz S.TIi1 S.TIi2 hTI, d1, d2, .inr ⟨T, true, oT, b1, hk _ _ r1 r2 r3 hT, r1, r2, r3, r4⟩⟩
            fun c o hc e => hk c o (fun x => hc (by simp [x])) (fun x => hc (by simp [x])) (fun x => hc (by simp [x])) e
      done := fun s₁ Q₁ E₁ st hQ => by
        obtain ⟨hTI, st1, h2, hz⟩ := st
        rcases hz with ⟨hz, a, b, hTO⟩ | ⟨T, f, oT, hz, hT, r1, r2, r3, r4⟩
        · exact wpAny_pyNext_zipD2_end S D1 D2 hz hTI hTO st1 h2 (by omega) (Nat.le_refl _) (.inr rfl) fun h' tk hk => hQ h' tk fun c o hc e => hk c o (fun x => hc (by simp [x])) (fun x => hc (by simp [x])) (fun x => hc (by simp [x])) (fun x => hc (by simp [x])) e
        · exact pyNext_held_end S D1 D2 hz hT hTI st1 h2 hn fun h' tk hk => hQ h' tk fun c o hc e => hk c o (fun x => hc (by simp [x])) (fun x => hc (by simp [x])) (fun x => hc (by simp [x])) e }
end Lf

set_option Elab.async false
set_option linter.all false
set_option maxRecDepth 100000
set_option maxHeartbeats 4000000
/-! dict(zip(found, range(len(found)))), found a list of tuples of numbers. -/
namespace Lf
open PySem PySem.Spec PyProof.Rows L2
theorem key_up {P : Program} {w : World} {H : Hp} {h h' : Heap} {a : Addr} {ks : List Key} (ok : HOk P w H h) (e : H a = some (.tup (ks.map kV))) (k : ∀ o, h.get? a = some o → h'.get? a = some o) : (tupleKind (mixKind P w)).is h' ks a := by
  obtain ⟨o, its, n, h1, h2, h3, r⟩ := key_of ok e
  exact ⟨o, its, n, k o h1, h2, h3, r⟩
theorem kt_keys {P : Program} {w : World} {H : Hp} {h h' : Heap} (ok : HOk P w H h) (k : ∀ a o, h.get? a = some o → h'.get? a = some o) : ∀ {l : List (List Key × V)} {m : List (List Key × Addr × Value)}, KT H l m → ∀ x ∈ m, (tupleKind (mixKind P w)).is h' x.1 x.2.1 := by
  intro l m q
  induction q with
  | nil => intro x hx; exact nomatch hx
  | @cons p q ps qs hq t ih =>
    intro x hx
    rcases List.mem_cons.mp hx with e | hx
    · subst e
      exact key_up ok (by rw [← hq.1]; exact hq.2.1) (k _)
    · exact ih x hx
def tDZ (K : PySem.W.Frag) (ta : TE) (tr : L2.St → Hp → (Int → Int → Hp → Prop) → Prop) : TE := fun σ H Q => ta σ H fun x H1 => tr σ H1 fun lo hi H2 => ∃ (a : Addr) (as : List Addr) (found : List (List Nat)), x = .ref a ∧ lo = 0 ∧ hi = ((found.length : Nat) : Int) ∧ found.length ≤ 100000 ∧ SqL K H2 a (as.map V.ref) ∧ as.length = found.length ∧
  (∀ (j : Nat) b x, as[j]? = some b → found[j]? = some x → H2 b = some (.tup (x.map fun i => V.int (i : Nat)))) ∧ found.Nodup ∧ ∀ p, H2 p = none → Q (.ref p) (L2.upd H2 p (.dT (dtab found)))
theorem call_dictZ {X : Cx} {pins : List (Addr × Obj)} {σ : L2.St} {H : Hp} {s : Shared} (hu : X.A.units + 9 < cLine) (hc : X.A.handled = none) (I : Inv X pins σ H s) {a r : Addr} {as : List Addr} {found : List (List Nat)} {t u v : Tok} {Q : VK}
    (hr : IsRange s.heap r 0 ((found.length : Nat) : Int) 1 t u v) (f2 : found.length ≤ 100000) (hs : SqL X.K H a (as.map V.ref)) (la : as.length = found.length) (el : ∀ (j : Nat) b x, as[j]? = some b → found[j]? = some x → H b = some (.tup (x.map fun i => V.int (i : Nat)))) (nd : found.Nodup)
    (q : ∀ p, H p = none → Q (.ref p) (L2.upd H p (.dT (dtab found)))) {h3 : Heap}
    (hz : IsZip h3 (s.heap.objs.size + 4) (s.heap.objs.size + 2) (s.heap.objs.size + 3) .none) (hTI : IsTupOf2 h3 (s.heap.objs.size + 2) (.ref s.heap.objs.size) (.ref (s.heap.objs.size + 1))) (hTO : IsTupOf2 h3 (s.heap.objs.size + 3) .none .none)
    (g1 : h3.get? s.heap.objs.size = some { cls := .type "list_iterator", data := .fields #[.ref a, .int 0 0] }) (g2 : h3.get? (s.heap.objs.size + 1) = some { cls := .type "range_iterator", data := .fields #[rawInt 0, rawInt ((found.length : Nat) : Int), rawInt 1] })
    (hsz : h3.objs.size = s.heap.objs.size + 5) (hk : ∀ c o, s.heap.get? c = some o → h3.get? c = some o) :
    wpAny (model X.prog X.w) X.A (call (.type "dict") [.ref (s.heap.objs.size + 4)]) (fun x s' => ∃ y H', Inv X pins σ H' s' ∧ RelV y x ∧ Q y H') X.xe { s with heap := h3 } := by
  obtain ⟨its, rv, pl, _⟩ := I.list hs
  have lb : a < s.heap.objs.size := pl.lt
  have li : its.length = found.length := by have := rv.length; rw [List.length_map] at this; omega
  have S : ZipSep2 (s.heap.objs.size + 4) (s.heap.objs.size + 2) (s.heap.objs.size + 3) s.heap.objs.size (s.heap.objs.size + 1) [s.heap.objs.size, a] [s.heap.objs.size + 1] := by
    have ne : ∀ k : Nat, s.heap.objs.size + k ≠ a := fun k => Nat.ne_of_gt (Nat.lt_of_lt_of_le lb (Nat.le_add_right _ _))
    have nm : ∀ {x y : Addr}, x ≠ y → x ≠ a → x ∉ [y, a] := fun h1 h2 h => by
      simp only [List.mem_cons, List.not_mem_nil, or_false] at h
      exact h.elim h1 h2
    refine ⟨?_, ?_, ?_, ?_, List.mem_cons_self, nm ?_ (ne 4), nm ?_ (ne 3), ?_, List.mem_cons_self, fun h => ?_, fun h => ?_, fun h => ?_, nm ?_ (ne 1)⟩
    all_goals first | (intro h; have h' : (_ : Nat) = _ := h; omega) | (have h' : (_ : Nat) = _ := List.mem_singleton.mp h; omega)
  refine call_dict_arg (pairZipR _ _ _ _ _ a S its.toArray found.length (by simp [li])) ⟨hz, hTI, ⟨_, _, hTO⟩, ⟨⟨_, g1, rfl, rfl⟩, pl.isList.at fun o e => hk _ o e⟩, g2⟩ fun s₁ hs₁ hdf ok₁ => ?_
  subst hs₁
  have small : ∀ {c : Addr} {o : Obj}, s.heap.get? c = some o → c ≠ h3.objs.size ∧ c ∉ [s.heap.objs.size + 4, s.heap.objs.size + 3, s.heap.objs.size, s.heap.objs.size + 1] := fun {c o} e => by
    have l : c < s.heap.objs.size := Heap.lt_size e
    have ne : ∀ k : Nat, c ≠ s.heap.objs.size + k := fun k => Nat.ne_of_lt (Nat.lt_of_lt_of_le l (Nat.le_add_right _ _))
    refine ⟨by rw [hsz]; exact ne 5, fun h => ?_⟩
    simp only [List.mem_cons, List.not_mem_nil, or_false] at h
    rcases h with h | h | h | h
    · exact ne 4 h
    · exact ne 3 h
    · exact ne 0 h
    · exact ne 1 h
  have knt : ∀ {i : Nat} {xs : List (List Key × Addr × Value)}, KT H (dtab (found.take i)) xs → xs.length ≤ 100000 := fun {i xs} r => by
    have e1 := Paired.length r
    have e2 : (dtab (found.take i)).length = (found.take i).length := dtabF_len
    have e3 : (found.take i).length ≤ found.length := by rw [List.length_take]; omega
    omega
  have hsl := sizeLine_eq
  refine updateFrom_arg (A := X.A.in1) (d := h3.objs.size)
    (Tab := fun i h => (∃ xs, KT H (dtab (found.take i)) xs ∧ h.DictOfH (tupleKind (mixKind X.prog X.w)) h3.objs.size xs) ∧ ∀ c o, s.heap.get? c = some o → h.get? c = some o)
    (pairZipR _ _ _ _ _ a S its.toArray found.length (by simp [li])) .none hc ok₁ hdf ⟨⟨[], .nil, Heap.DictOfH.new h3⟩, fun c o e => Heap.get?_push_of_some _ (hk c o e)⟩ (fun _ _ tb => by obtain ⟨⟨_, _, y⟩, _⟩ := tb; exact y.lt_size) (fun i h h' wr' hd hw tb hk' => ?_) (fun i k v s' Q' E' hi hrel tb _ hQ => ?_) (fun h' tk tb hk' => ?_)
  · obtain ⟨⟨xs, r, y⟩, up⟩ := tb
    have up' : ∀ c o, s.heap.get? c = some o → h'.get? c = some o := fun c o e => hk' c o (fun hm => by
      rcases hw c hm with z | z
      · exact (small e).2 z
      · rw [Heap.get?_push_of_some _ (hk c o e)] at z
        cases z) (up c o e)
    exact ⟨⟨xs, r, y.at' (fun o e => hk' _ o hd e) (kt_keys I.hok up' r)⟩, up'⟩
  · obtain ⟨⟨xs, r, y⟩, up⟩ := tb
    obtain ⟨hk1, tt, rfl⟩ := hrel
    obtain ⟨b, hb⟩ := Mon.lt_get' (show i < as.length by omega)
    obtain ⟨x, hx⟩ := Mon.lt_get' hi
    obtain ⟨u', hu', ru⟩ := rv.get (i := i) (x := .ref b) (by rw [List.getElem?_map, hb]; rfl)
    have ek : k = .ref b := by
      have e1 : its[i]? = some k := by simpa using hk1
      rw [hu'] at e1
      have e2 : u' = .ref b := ru
      rw [← Option.some.inj e1, e2]
    subst ek
    have hH : H b = some (.tup ((kt x).map kV)) := by rw [kt_map]; exact el i b x hb hx
    have nx : x ∉ found.take i := fun hm => by
      obtain ⟨j, hj⟩ := List.getElem?_of_mem hm
      have jl := Mon.get_lt' hj
      rw [List.length_take] at jl
      rw [List.getElem?_take_of_lt (by omega)] at hj
      have := Mon.nodup_at nd hj hx
      omega
    have lt : (found.take i).length = i := by rw [List.length_take]; omega
    refine wpAny_dictSet_heap (hsz := by have := knt r; omega) (knd := tupleKind (mixKind X.prog X.w)) (show (tupleKind (mixKind X.prog X.w)).room X.A.in1.in1 from (by show X.A.units + 1 + 1 < cLine; omega)) (key_up I.hok hH (up b)) y fun h' hm' hs' => ?_
    refine hQ h' _ ⟨⟨_, ?_, hm'⟩, fun c o e => hs'.extBut c o (small e).1 (up c o e)⟩ hs'
    have p := KT.put r (kt x) (y := .int ((i : Nat) : Int)) (u := .int ((i : Nat) : Int) tt) hH ⟨tt, rfl⟩
    have e := dtab_put nx
    rw [lt] at e
    rw [e] at p
    have et : found.take (i + 1) = found.take i ++ [x] := by rw [List.take_add_one, hx]; rfl
    rw [et]
    exact p
  · obtain ⟨⟨xs, r, y⟩, up⟩ := tb
    rw [List.take_of_length_le (Nat.le_refl _)] at r
    have hd : (h3.objs.size == sysModules) = false := beq_eq_false_iff_ne.mpr (Nat.ne_of_gt (by have := I.big; rw [hsz]; exact Nat.lt_of_lt_of_le this (Nat.le_add_right _ _)))
    have hle : s.heap.objs.size ≤ h3.objs.size := by rw [hsz]; exact Nat.le_add_right _ _
    have hn := I.hok.fresh hle
    obtain ⟨o, es, ep, h1, h2, h3', h4, _, h5⟩ := y
    refine ⟨rfl, .ref h3.objs.size, _, I.laid (t' := tk) up hle (show ObjOk X.prog X.w _ _ _ (.dT (dtab found)) from ⟨?_, hd, xs, r.keeps fun c ys ec => ?_, o, es, ep, h1, h2, h3', h4, h5⟩), rfl, q _ hn⟩
    · have e2 : (dtab found).length = found.length := dtabF_len
      omega
    · rw [upd_ne (ne_of_none ec hn)]
      exact ec
theorem pe_dictZip {X : Cx} {e r : Expr} {te : TE} {tr : L2.St → Hp → (Int → Int → Hp → Prop) → Prop} {p1 p2 pos1 pos2 : Pos} (hu : X.A.units + 9 < cLine) (hc : X.calm = true) (hgd : Gl X "dict") (hmd : X.mg "dict" = none) (hgz : Gl X "zip") (hmz : X.mg "zip" = none) (he : PE X e te) (hr : PRg X r tr)
    (n1 : starEach [.Call (.Name "zip" p2) [e, r] [] pos2] X.env = (false, eval (.Call (.Name "zip" p2) [e, r] [] pos2) X.env) :: starEach [] X.env := by rfl)
    (n2 : starEach [e, r] X.env = (false, eval e X.env) :: starEach [r] X.env := by rfl) (n3 : starEach [r] X.env = (false, eval r X.env) :: starEach [] X.env := by rfl) (hp : (backTo pos2 (starEach [r] X.env)).any (·.1) = false := by rfl) :
    PE X (.Call (.Name "dict" p1) [.Call (.Name "zip" p2) [e, r] [] pos2] [] pos1) (tDZ X.K te tr) := by
  refine ⟨fun pins s σ H Q I h => ?_⟩
  refine Call_ (ld_blt I hgd hmd boot_dict (PyProof.Rows.callWith_type1 (args_cons (Call_ (ld_blt I hgz hmz PyProof.Rows.boot_zip (PyProof.Rows.callWith_type1 (args_cons (thn (he.run pins s σ H _ I h) fun v s1 ⟨x, H1, I1, rx, q1⟩ =>
    args_cons (thn (hr pins s1 σ H1 _ I1 q1) fun y s2 ⟨r', lo, hi, t, u, vv, H2, ey, hrng, I2, q2⟩ => args_nil ?_) n3) n2) n2 hp))) n1) n1))
  obtain ⟨a, as, found, rfl, rfl, rfl, f2, hs, la, el, nd, q⟩ := q2
  subst ey
  obtain rfl : v = Value.ref a := rx
  obtain ⟨its, rv, pl, _⟩ := I2.list hs
  refine zip_begins2 (begins_list a its.toArray) (begins_range r' found.length t u vv (by omega)) pl.isList hrng fun h3 hz hTI hTO g1 g2 hsz hk => ?_
  exact args_nil (call_dictZ hu (I2.ok.hd hc) I2 hrng f2 hs la el nd q hz hTI hTO g1 g2 hsz hk)
end Lf

set_option Elab.async false
set_option linter.all false
set_option maxRecDepth 100000
set_option maxHeartbeats 4000000
/-! list(text), text * n; texts by their signs. -/
namespace Lf
open PySem PySem.Spec PyProof.Rows L2
/-- a text of signs -/
def tx (cs : List Nat) : Str := ⟨cs.toArray⟩
theorem tx_len (cs : List Nat) : (tx cs).length = cs.length := by
  show cs.toArray.size = _
  simp
theorem tx_list (cs : List Nat) : (tx cs).cps.toList = cs := rfl
theorem tx_app (a b : List Nat) : tx a ++ tx b = tx (a ++ b) := by
  show Str.mk (a.toArray ++ b.toArray) = Str.mk (a ++ b).toArray
  simp
theorem tx_inj {a b : List Nat} (h : tx a = tx b) : a = b := by
  have := congrArg (fun z : Str => z.cps.toList) h
  exact this
theorem tx_of (z : Str) : z = tx z.cps.toList := by
  obtain ⟨⟨l⟩⟩ := z
  rfl
theorem call_listStr {X : Cx} (hc : X.calm = true) : CallR X (.type "list") (fun xs H Q => ∃ cs : List Nat, xs = [.str (tx cs)] ∧ cs.length ≤ sizeLine ∧ ∀ l, H l = none → Q (.ref l) (upd H l (.lst (cs.map fun c => V.str (tx [c]))))) := by
  intro pins s σ H xs us Q I r h
  obtain ⟨cs, rfl, hz, q⟩ := h
  obtain ⟨u, rfl, rx⟩ := vals1 r
  obtain ⟨t, rfl⟩ := rx
  have sz : (tx cs).cps.size = cs.length := by simp [tx]
  refine call_list_str (I.ok.hd hc) (tx cs) t (fun h' tk acc' c' kp e it => ?_) (by rw [sz]; exact hz)
  have la : acc'.toList.length = cs.length := by rw [Array.length_toList, it.1, sz]
  have rv : Vals (cs.map fun c => V.str (tx [c])) acc'.toList := by
    have g : ∀ (cs : List Nat) (us : List Value), us.length = cs.length → (∀ (j : Nat) (v : Value), us[j]? = some v → ∃ (c : Nat) (u : Tok), cs[j]? = some c ∧ v = Value.str ⟨#[c]⟩ u) → Vals (cs.map fun c => V.str (tx [c])) us := by
      intro cs
      induction cs with
      | nil =>
        intro us hl _
        cases us with
        | nil => exact .nil
        | cons a b => simp at hl
      | cons c cs ih =>
        intro us hl hv
        cases us with
        | nil => simp at hl
        | cons a b =>
          refine .cons ?_ (ih b (by simpa using hl) fun j v hj => hv (j + 1) v hj)
          obtain ⟨c', u, e1, e2⟩ := hv 0 a rfl
          cases e1
          exact ⟨u, e2⟩
    refine g cs _ la fun j v hj => ?_
    have hj' : acc'[j]? = some v := by rw [← Array.getElem?_toList]; exact hj
    obtain ⟨c, u, e1, e2⟩ := it.2 j v hj'
    refine ⟨c, u, ?_, e2⟩
    rw [← Array.getElem?_toList] at e1
    exact e1
  refine ⟨.ref s.heap.objs.size, _, I.laid (t' := tk) kp (Nat.le_refl _) (show ObjOk X.prog X.w _ h' _ (.lst (cs.map fun c => V.str (tx [c]))) from ⟨by rw [List.length_map]; exact hz, acc'.toList, c', rv, ?_⟩), rfl, q _ (I.hok.fresh (Nat.le_refl _))⟩
  exact e
theorem foldl_app (x : Array Nat) : ∀ (n : Nat) (a : Array Nat), (List.replicate n x).foldl (· ++ ·) a = a ++ (List.replicate n x.toList).flatten.toArray
  | 0, a => by simp
  | n + 1, a => by
    rw [List.replicate_succ, List.foldl_cons, foldl_app x n, List.replicate_succ, List.flatten_cons]
    apply Array.ext'
    simp
theorem flat_len (n : Nat) (cs : List Nat) : (List.replicate n cs).flatten.length = n * cs.length := by
  induction n with
  | zero => rw [Nat.zero_mul]; rfl
  | succ n ih => rw [List.replicate_succ, List.flatten_cons, List.length_append, ih, Nat.succ_mul, Nat.add_comm]
theorem op_mul_str {X : Cx} : OpR X (binaryOp .Mult) (fun x y H Q => ∃ (cs : List Nat) (n : Nat), x = .str (tx cs) ∧ y = .int (n : Nat) ∧ 2 ≤ n ∧ n ≤ 1000 ∧ 1 ≤ cs.length ∧ cs.length ≤ 1000 ∧ Q (.str (tx (List.replicate n cs).flatten)) H) := by
  intro pins s σ H x y v u Q I rx ry h
  obtain ⟨cs, n, rfl, rfl, h2, hn, l1, l2, q⟩ := h
  obtain ⟨t, rfl⟩ := rx
  obtain ⟨t', rfl⟩ := ry
  have ll : (tx cs).length = cs.length := tx_len cs
  have nl : ¬ ((n : Nat) : Int) < 1 := by omega
  have no : (((n : Nat) : Int) == 1 || (tx cs).length == 0) = false := by
    rw [ll]
    have a : (((n : Nat) : Int) == 1) = false := by
      apply beq_false_of_ne
      omega
    have b : (cs.length == 0) = false := by
      apply beq_false_of_ne
      omega
    rw [a, b]
    rfl
  have hm : cs.length * n ≤ 1000000 := by
    have := Nat.mul_le_mul l2 hn
    omega
  refine P.mul_str ?_ (fun _ _ => ?_) (fun _ _ => ?_) ?_
  · rw [decide_eq_false (by omega), decide_eq_false (by omega)]
    rfl
  · rw [ll]
    have : (cs.length : Int) ≤ (2 ^ 63 - 1) / (n : Nat) := by
      rw [Int.le_ediv_iff_mul_le (by omega)]
      have : ((cs.length * n : Nat) : Int) ≤ 1000000 := Int.ofNat_le.mpr hm
      rw [Int.natCast_mul] at this
      omega
    omega
  · rw [ll, Int.toNat_natCast]
    have : ¬ cs.length * n > sizeLine := by rw [sizeLine_eq]; omega
    show decide (cs.length * n > sizeLine) = false
    exact decide_eq_false this
  · rw [if_neg nl, no, if_neg (by decide), Int.toNat_natCast]
    have e : (⟨(List.replicate n (tx cs).cps).foldl (· ++ ·) #[]⟩ : Str) = tx (List.replicate n cs).flatten := by
      rw [foldl_app]
      show Str.mk (#[] ++ (List.replicate n cs).flatten.toArray) = _
      rw [Array.empty_append]
      rfl
    rw [e]
    refine ⟨?_, ⟨.str (tx (List.replicate n cs).flatten), H, I.tok _, ⟨_, rfl⟩, q⟩⟩
    rw [tx_len]
    have : (List.replicate n cs).flatten.length = n * cs.length := flat_len n cs
    rw [this, sizeLine_eq, Nat.mul_comm]
    omega
end Lf

set_option Elab.async false
set_option linter.all false
set_option maxRecDepth 100000
set_option maxHeartbeats 4000000
/-! try: .. except X as e: .. except Y: ..; what a suite asks of e: isinstance, told(). -/
namespace Lf
open PySem PySem.Spec PyProof.Rows L2
/-- clauses: the first one by a name, the others without -/
def wAsM (K : PySem.W.Frag) (c : Value) (i : Nat) (ts : Addr → Value → Option Addr → TS) (rest : Ends → WX) (D : Ends) : WX := fun cls d σ H =>
  ∃ b, PySem.W.exmOne K cls c = some b ∧ (b = true → ∀ a, H a = none → ts a cls d ⟨fun σ' H' => D.nx (σ'.set i none) H', D.rt, fun σ' H' => D.bk (σ'.set i none) H', fun σ' H' => D.ct (σ'.set i none) H'⟩ (σ.set i (some (.ref a))) H) ∧ (b = false → rest D cls d σ H)
/-- with as many slots as there are names -/
def wLen (n : Nat) (W : WX) : WX := fun cls d σ H => σ.length = n → W cls d σ H
section
variable {X : Cx} {x n : Str} {c : Value} {i : Nat} {body suite : List Stmt} {b1 : Stmt} {np pos p3 : Pos} {tb : WX → TS} {ts : Addr → Value → Option Addr → TS} {Wout : WX} {more : List ExceptHandler} {l : List (Value × (Addr → Value → Option Addr → TS))}
theorem ps_try_asM (st : X.stack = X.env :: X.outer) (fr : X.env.frame = some X.env.locals) (nd : X.N.Nodup) (ni : X.N[i]? = some n) (kd : X.env.kindOf n = some .local) (nm : Names X x c) (tk : Takes X Wout)
    (inner : ∀ (W : WX) (pn : List (Addr × Obj)) (xe : Value → Shared → Prop), Takes (X.tr pn xe) W → PassesOwn (model X.prog X.w) X.A X.env xe → PSs (X.tr pn xe) body (tb W))
    (first : ∀ (a : Addr) (o : Obj) (cls : Value) (d : Option Addr) (pn : List (Addr × Obj)), Zc cls d o → (∃ vs, o.data = .fields vs) → PSs (X.suite a ((a, o) :: pn)) (b1 :: suite) (ts a cls d)) (others : HdsOk X more l) :
    PS X (.Try body (.ExceptHandler (some (.Name x np)) (some n) (b1 :: suite) p3 :: more) [] [] pos) (fun D σ H => tb (wLen X.N.length (wAsM X.K c i ts (fun D => wMany X.K Wout D l) D)) D σ H) := by
  refine ⟨fun pins s σ H D I0 h => ?_⟩
  have ok := I0.ok
  have fa : X.A.frames = some (X.env :: X.outer) := by rw [ok.frames, st]
  have lc : Loc X.env.scope n := .inl kd
  refine wpAny_Try_except ?_
  refine wpAny_mono ((inner (wLen X.N.length (wAsM X.K c i ts (fun D => wMany X.K Wout D l) D)) (X.pn ++ pins) (fun e s1 => wpAny (model X.prog X.w) X.A (noteFrame e X.env) (fun _ s2 => wpAny (model X.prog X.w) X.A (setFlight e none) (fun _ s3 =>
    wpAny (model X.prog X.w) X.A (handleBy e X.env (.ExceptHandler (some (.Name x np)) (some n) (b1 :: suite) p3 :: more)) (SP X pins D) X.xe s3) X.xe s2) X.xe s1) (fun u s' q => ?_) PassesOwn.looking).run [] s σ H D (I0.toTry _) h) (fun f s1 q => ?_) (fun e s1 q => q)
  · obtain ⟨a, B, sI, pins', σ', H', cls, d, rfl, J', nb, up, sky, na, os, ag, w⟩ := q
    have J0 : Inv X pins σ' H' sI := J'.ofTry ok
    have sk : Sky B (X.env :: X.outer) a (Zc cls d) X.env.locals s'.heap := by rw [← st]; exact sky
    show wpAny (model X.prog X.w) X.A (noteFrame (.ref a) X.env) _ _ _
    refine Sky.land Zc.steady fa fr sk fun h1 g1 u1 => ?_
    have J1 : Inv X pins σ' H' { s' with heap := h1 } := J0.landed nb g1.1 (up.trans u1) os ag
    obtain ⟨o1, v1, e1, z1, d1⟩ := g1.there
    have off : a ∉ frs (X.env :: X.outer) := fun hm => by
      obtain ⟨_, o', e', nf⟩ := g1.2.2.1.mem hm
      rw [e1] at e'
      cases e'
      exact nf _ d1
    have nL : a ≠ X.env.locals := fun z => off (List.mem_filterMap.mpr ⟨X.env, List.mem_cons_self, by rw [fr, z]⟩)
    have nF : a ∉ X.fs := fun hm => by
      obtain ⟨e, he, q⟩ := List.mem_filterMap.mp hm
      exact off (List.mem_filterMap.mpr ⟨e, List.mem_cons_of_mem _ he, q⟩)
    have S1 := J1.suite e1 d1 na nL nF
    have L1 : PySem.W.Looks (model X.prog X.w) h1 (typeOf (.ref a)) cls := fun A Q E s k q => wpAny_typeOf_ref (k _ _ e1) (by rw [z1.1]; exact q)
    have asks : ∀ {y : Str} {cv : Value} {yp : Pos} {Q : Value → Shared → Prop} {E : Value → Shared → Prop}, Names X y cv → Q cv { s' with heap := h1 } → wpAny (model X.prog X.w) (X.A.mark (some (.ref a))) (eval (.Name y yp) X.env) Q E { s' with heap := h1 } := fun {y cv yp Q E} nm q => by
      obtain ⟨hg, hb, hm | ⟨hm, hv, hn⟩⟩ := nm
      · exact ld_glob (X := X.suite a ((a, o1) :: (X.pn ++ pins))) S1 hg hm q hb
      · exact ld_blt (X := X.suite a ((a, o1) :: (X.pn ++ pins))) S1 hg hm hv q hn hb
    have rest : ∀ {hs : List ExceptHandler} {l' : List (Value × (Addr → Value → Option Addr → TS))}, HdsOk X hs l' → wMany X.K Wout D l' cls d σ' H' →
        wpAny (model X.prog X.w) X.A (handleBy (.ref a) X.env hs) (SP X pins D) X.xe { s' with heap := h1 } := by
      intro hs l' hk
      induction hk with
      | nil =>
        intro w
        refine wpAny_handleBy_nil ?_
        obtain ⟨k1, k2, k3, oe, vs, T, oT, ts', he, hz, hd, f1, hr⟩ := id g1
        unfold PySem.passOn
        refine wpAny_bind (wpAny_field he hd f1 ?_)
        rw [if_neg (show ¬ ((Value.ref T == Value.none) = true) from by simp)]
        have out : wpAny (model X.prog X.w) X.A (setFlight (.ref a) X.env.frame) (fun _ s4 => wpAny (model X.prog X.w) X.A (throw (.ref a) : Sem Flow) (SP X pins D) X.xe s4) X.xe { s' with heap := h1 } := by
          rw [fr]
          exact HandSPX.setFlight_upZ g1 fun h2 b2 u2 => wpAny_throw (tk _ _ ⟨a, B, sI, pins, σ', H', cls, d, rfl, J0, nb, (up.trans u1).trans u2, .inr (.inr (by rw [st]; exact b2)), na, os, ag, w⟩)
        first
          | exact wpAny_bind (wpAny_pure (wpAny_bind out))
          | exact wpAny_bind out
      | @cons y cv ts2 c1 suite2 yp p4 more2 l2 nm2 hsu r ih =>
        intro w
        obtain ⟨b, hb1, yes, no⟩ := w
        refine wpAny_handleBy_cons (codeAny_handlers_test ?_) (by intro q; cases q)
        refine asks nm2 ((PySem.W.exm_one (M := model X.prog X.w) J1.kIn L1 hb1).here ?_)
        cases b with
        | true =>
          refine codeAny_handlers_suite ?_
          refine HandSPX.lands_againZ g1 fun h2 g2 u2 => ?_
          have J2 : Inv X pins σ' H' { s' with heap := h2 } := J0.landed nb g2.1 ((up.trans u1).trans u2) os ag
          obtain ⟨o2, v2, e2, z2, d2⟩ := g2.there
          refine wpAny_mono ((hsu a o2 cls d (X.pn ++ pins) z2 ⟨_, d2⟩).run [] _ _ H' _ (J2.suite e2 d2 na nL nF) (yes rfl a na)) (fun f s6 q => ?_) (fun _ _ z => False.elim z)
          cases f with
          | ret u =>
            obtain ⟨v6, σ6, H6, S6, r6, q6⟩ := q
            exact ⟨_, _, _, S6.unsuite ok, r6, q6⟩
          | next => obtain ⟨σ6, H6, S6, q6⟩ := q; exact ⟨_, _, S6.unsuite ok, q6⟩
          | brk => obtain ⟨σ6, H6, S6, q6⟩ := q; exact ⟨_, _, S6.unsuite ok, q6⟩
          | cont => obtain ⟨σ6, H6, S6, q6⟩ := q; exact ⟨_, _, S6.unsuite ok, q6⟩
        | false =>
          show wpAny _ X.A (handleBy (.ref a) X.env more2) _ _ _
          exact ih (no rfl)
    obtain ⟨b, hb1, yes, no⟩ := w J0.len
    refine wpAny_handleBy_cons (codeAny_handlers_test ?_) (by intro q; cases q)
    refine asks nm ((PySem.W.exm_one (M := model X.prog X.w) J1.kIn L1 hb1).here ?_)
    cases b with
    | false =>
      show wpAny _ X.A (handleBy (.ref a) X.env more) _ _ _
      exact rest others (no rfl)
    | true =>
      refine codeAny_handlers_suite_as ?_
      refine HandSPX.lands_againZ g1 fun h2 g2 u2 => ?_
      have J2 : Inv X pins σ' H' { s' with heap := h2 } := J0.landed nb g2.1 ((up.trans u1).trans u2) os ag
      obtain ⟨o2, v2, e2, z2, d2⟩ := g2.there
      refine store_ok (X := X.suite a ((a, o2) :: (X.pn ++ pins))) (v := .ref a) (J2.suite e2 d2 na nL nF) nd ni lc rfl (fun s5 S5 => ?_) (.inr kd)
      refine wpAny_mono ((first a o2 cls d (X.pn ++ pins) z2 ⟨_, d2⟩).run [] s5 _ H' _ S5 (yes rfl a na)) (fun f s6 q => ?_) (fun _ _ z => False.elim z)
      have gone : ∀ {σ6 : L2.St} {H6 : Hp} {Q : Shared → Prop}, Inv (X.suite a ((a, o2) :: (X.pn ++ pins))) [] σ6 H6 s6 → (∀ s7, Inv X pins (σ6.set i none) H6 s7 → Q s7) →
          wpAny (model X.prog X.w) X.A (do bindName X.env n .none; unbindBehindTheSuite X.env n p3) (fun _ s7 => Q s7) X.xe s6 := fun {σ6 H6 Q} S6 hq => gone_ok (S6.unsuite ok) nd ni kd hq
      cases f with
      | ret u =>
        obtain ⟨v6, σ6, H6, S6, r6, q6⟩ := q
        exact gone S6 fun s7 J7 => ⟨_, _, _, J7, r6, q6⟩
      | next => obtain ⟨σ6, H6, S6, q6⟩ := q; exact gone S6 fun s7 J7 => ⟨_, _, J7, q6⟩
      | brk => obtain ⟨σ6, H6, S6, q6⟩ := q; exact gone S6 fun s7 J7 => ⟨_, _, J7, q6⟩
      | cont => obtain ⟨σ6, H6, S6, q6⟩ := q; exact gone S6 fun s7 J7 => ⟨_, _, J7, q6⟩
  · cases f with
    | ret u =>
      obtain ⟨v, σ', H', J', r, q⟩ := q
      exact ⟨v, σ', H', J'.ofTry ok, r, q⟩
    | next => obtain ⟨σ', H', J', q⟩ := q; exact wpAny_execs_nil ⟨σ', H', J'.ofTry ok, q⟩
    | brk => obtain ⟨σ', H', J', q⟩ := q; exact ⟨σ', H', J'.ofTry ok, q⟩
    | cont => obtain ⟨σ', H', J', q⟩ := q; exact ⟨σ', H', J'.ofTry ok, q⟩
end

/-- a block by a reading that is chosen when its slots and heap are known -/
theorem pss_some {X : Cx} {b : List Stmt} {ts : TS} (h : ∀ D σ H, ts D σ H → ∃ t, PSs X b t ∧ t D σ H) : PSs X b ts := ⟨fun pins s σ H D I q => by
  obtain ⟨t, p, z⟩ := h D σ H q
  exact p.run pins s σ H D I z⟩
theorem pe_some {X : Cx} {e : Expr} {te : TE} (h : ∀ σ H Q, te σ H Q → ∃ t, PE X e t ∧ t σ H Q) : PE X e te := ⟨fun pins s σ H Q I q => by
  obtain ⟨t, p, z⟩ := h σ H Q q
  exact p.run pins s σ H Q I z⟩

/-! ### a def called while an exception is handled: it raises nothing -/
structure FnW (P : Program) (w : World) (K : PySem.W.Frag) (mg : Str → Option Value) (base : Heap) (k : Nat) (f : Addr) (fd : FuncData) (ps : List Str) (sp : Sp) : Prop where
  len : ∀ vs H Q E, sp vs H Q E → vs.length = ps.length
  run : ∀ (A : Around) (outer : List Env) (s : Shared) (H : Hp) (args : Args) (us : List Value) (vs : List V) (Q : VK) (p : Addr × Obj), L2H.RoomH k A → L2H.PinOk outer H s p → Env0 P w K mg base A outer s H → BindsTo s fd args (ps.zip us) → Vals vs us → sp vs H Q E0 →
    codeAny (model P w) A (.call (.ref f) args) (CR CX0 outer P w H s Q E0) s
section
variable {P : Program} {w : World} {K : PySem.W.Frag} {mg : Str → Option Value} {base : Heap} {x qual : Str} {params : Arguments} {body : List Stmt} {scope : Scope} {dvs : List V} {kws : List (Str × V)} {f : Addr} {fd : FuncData}
theorem fnW_of {N ps : List Str} {k : Nat} {sp : Sp} (F : FunD K x qual params body scope dvs kws f fd) (S : FnScope N ps scope) (len : ∀ vs H Q E, sp vs H Q E → vs.length = ps.length)
    (hbody : ∀ (cdv : Value) (A : Around) (outer : List Env) (s : Shared) (H : Hp) (vs : List V) (Q : VK) (p : Addr × Obj), L2H.RoomH k (A.deeper (envOfC qual scope s.heap.objs.size f cdv)) → sp vs H Q E0 →
      ∃ t, PSs (L2H.cxH CX0 P w K mg base N qual scope f cdv A outer s H E0 p) body t ∧ t { nx := fun _ H' => Q .non H', rt := Q } (L2.start N vs) H) : FnW P w K mg base (k + 1) f fd ps sp := by
  obtain ⟨oc, od, dV, kV, doc, pm, an, cdv, ct, osl, rfl, lk, cd, _, _⟩ := F.ex
  refine ⟨len, fun A outer s H args us vs Q p room pin env bd rel told => ?_⟩
  have ln := len _ _ _ _ told
  have KX : K.In s.heap := env.mod.kin.keeps fun b o e => (env.bs b o e).1
  have kinds : ∀ y ∈ ps.zip us, scope.names.lookup y.1 = some .local ∨ (scope.names.lookup y.1 = some .cell ∧ ((cellsFrom (s.heap.objs.size + 1) scope.names []).lookup y.1).isSome = true) := fun ⟨m, v⟩ hy =>
    (S.par m (List.of_mem_zip hy).1).imp id fun q => ⟨q, PySem.W.cellsFrom_some _ _ _ (.inl q)⟩
  refine codeAny_call_function room.depth (KX _ _ lk) rfl S.co S.gen rfl (PySem.W.codeRec_of KX cd) (bd _ _ _ _ ?_)
  refine wpAny_newFunctionEnv_cells S.kind kinds fun en he s1 inC => ?_
  subst he
  refine ⟨(env.mod.nolimit.keeps fun b o e => (env.bs b o e).1).keeps inC.toInCall.keep, codeAny_func ?_⟩
  obtain ⟨t, ht, hq⟩ := hbody cdv A outer s H vs Q p (room.deeper _) told
  have I0 := L2H.inv_startH (CX := CX0) (E := E0) S pin env ln rel inC
  refine wpAny_mono (ht.run [] s1 (L2.start N vs) H _ I0 hq) (fun fl s' hs => ?_) fun e s' hs => hs
  cases fl with
  | ret u =>
    obtain ⟨v, σ', H', J, rv, q⟩ := hs
    exact ⟨v, H', J.os, J.bare, J.base, J.hok, rv, q⟩
  | next =>
    obtain ⟨σ', H', J, q⟩ := hs
    exact ⟨V.non, H', J.os, J.bare, J.base, J.hok, rfl, q⟩
  | brk => obtain ⟨_, _, _, q⟩ := hs; exact q.elim
  | cont => obtain ⟨_, _, _, q⟩ := hs; exact q.elim
/-- told() of one text, there -/
theorem told_okW {t : Str} {j : Nat} {p p2 : Pos} (F : FunD K "told" qual params [.Return (some (.Constant (.str t) j p)) p2] scope [] [] f fd) (S : FnScope ["self"] ["self"] scope) : FnW P w K mg base 1 f fd ["self"] (spTold t) := by
  refine fnW_of F S (fun vs H Q E h => ?_) (fun cdv A outer s H vs Q pp hr h => ?_)
  · obtain ⟨v, rfl, _⟩ := h
    rfl
  · obtain ⟨v, rfl, q⟩ := h
    exact ⟨_, pss_one (ps_ret pe_str), q⟩
end
section
variable {X : Cx} {a C f : Addr} {o1 : Obj} {pn : List (Addr × Obj)} {d : Option Addr} {m : Str} {fd : FuncData} {sp : Sp} {k : Nat}
/-- the caught error as an instance -/
theorem caught_inst {pins : List (Addr × Obj)} {σ : L2.St} {H : Hp} {s : Shared} (I : Inv (X.suite a ((a, o1) :: pn)) pins σ H s) (z : Zc (.ref C) d o1) (fl : ∃ vs, o1.data = .fields vs) (hd : ∀ dx, d = some dx → ∃ fs, H dx = some (exd dx fs) ∧ fs.lookup m = none) :
    ∃ od, PySem.W.InstAt s.heap a o1 C od ∧ PySem.W.shadowIn od m = some false := by
  obtain ⟨g, _⟩ := I.pin (a, o1) (List.mem_append_left _ List.mem_cons_self)
  obtain ⟨vs, hv⟩ := fl
  have nc : PySem.W.notCls o1 = true := by unfold PySem.W.notCls; rw [hv] <;> rfl
  cases d with
  | none => exact ⟨none, ⟨g, z.1, nc, by rw [z.2]; trivial⟩, rfl⟩
  | some dx =>
    obtain ⟨fs, e, lk⟩ := hd dx rfl
    obtain ⟨mA, ns, rel⟩ := exd_at I.hok e
    obtain ⟨od, h2, hk⟩ := lookIn_ns ns
    refine ⟨some od, ⟨g, z.1, nc, by rw [z.2]; exact h2⟩, ?_⟩
    have hm : mA m = none := by
      have r := rel m
      rw [lk] at r
      cases y : mA m with
      | none => rfl
      | some v => rw [y] at r; exact r.elim
    show (PySem.W.lookIn m od).map _ = _
    rw [hk, hm]
    rfl
def tToldC (a : Addr) (d : Option Addr) (m : Str) (sp : Sp) (te : TE) : TE := fun σ H Q => te σ H fun x H1 => x = .ref a ∧ (∀ dx, d = some dx → ∃ fs, H1 dx = some (exd dx fs) ∧ fs.lookup m = none) ∧ sp [.ref a] H1 Q E0
/-- e.m() of the caught error e -/
theorem pe_toldC {o : Expr} {te : TE} {pos apos : Pos} {pl : Sem Bool} (T : IsC X.K C) (M : Meth X.K C m f) (F : FnW X.prog X.w X.K X.mg X.base k f fd ["self"] sp) (hb : L2.Binds X.K fd ["self"] []) (hr : L2H.RoomH k X.A) (z : Zc (.ref C) d o1) (fl : ∃ vs, o1.data = .fields vs)
    (he : PE (X.suite a ((a, o1) :: pn)) o te)
    (ht : eval (.Call (.Attribute o m apos) [] [] pos) X.env = (do
      let ov ← eval o X.env
      standAt apos.atName
      let (f, first) ← holding [ov] (getMethod ov m pl)
      callWith pos f first (backTo pos (starEach [] X.env)) (backToKw pos (keywordEach [] X.env))) := by rfl) :
    PE (X.suite a ((a, o1) :: pn)) (.Call (.Attribute o m apos) [] [] pos) (tToldC a d m sp te) := by
  refine ⟨fun pins s σ H Q I h => ?_⟩
  refine PySem.W.methodCall_KW (pl := pl) (thn (he.run pins s σ H _ I h) fun u s1 hh => ?_) ht
  obtain ⟨x, H1, I1, rx, rfl, hd, q⟩ := hh
  obtain rfl : u = Value.ref a := rx
  obtain ⟨mm, fr⟩ := I1.fr
  obtain ⟨od, J, sh⟩ := caught_inst I1 z fl hd
  refine PySem.W.method_exc fr I1.ok.mod.kin J T.ga T.gg M.at_ M.fn sh (PySem.W.callWith_K0 (first := [.ref a]) I1.kIn M.kp ?_)
  have pin := I1.pin (a, o1) (List.mem_append_left _ List.mem_cons_self)
  have pk : L2H.PinOk (X.suite a ((a, o1) :: pn)).stack H1 s1 (a, o1) := ⟨pin.1, pin.2.1, fun hm => (List.mem_cons.mp (I1.stkSub _ hm)).elim pin.2.2.1 pin.2.2.2.1, pin.2.2.2.2⟩
  have room : L2H.RoomH k (X.suite a ((a, o1) :: pn)).A := ⟨hr.dp, hr.un⟩
  have bd := hb s1 [.ref a] I1.kIn rfl
  refine wpAny_call (codeAny_mono (F.run _ _ s1 H1 ⟨[.ref a], []⟩ [.ref a] [.ref a] Q (a, o1) room pk I1.env0 (by simpa using bd) (.cons rfl .nil) q) fun r s' hq => ?_)
  cases r with
  | error e => exact (show False from hq).elim
  | ok fl' =>
    cases fl' with
    | ret u => exact I1.after hq
    | next => exact hq.elim
    | brk => exact hq.elim
    | cont => exact hq.elim
/-- isinstance(e, c), e the caught error -/
def rIsC (K : PySem.W.Frag) (a C : Addr) (d : Option Addr) : List V → Hp → VK → Prop := fun xs H Q => ∃ (c : V) (cv : Value) (b : Bool),
  xs = [.ref a, c] ∧ ClsV c cv ∧ (∀ dx, d = some dx → ∃ fs, H dx = some (exd dx fs) ∧ fs.lookup ("__class__" : Str) = none) ∧ PySem.W.kitOne K (.ref C) cv = some b ∧ Q (.bl b) H
theorem call_isC (T : IsC X.K C) (z : Zc (.ref C) d o1) (fl : ∃ vs, o1.data = .fields vs) : CallR (X.suite a ((a, o1) :: pn)) (.builtin "isinstance") (rIsC X.K a C d) := by
  intro pins s σ H xs us Q I r h
  obtain ⟨c, cv, b, rfl, k, hd, e, q⟩ := h
  obtain ⟨u1, u2, rfl, r1, r2⟩ := vals2 r
  obtain rfl := k.eq r2
  obtain rfl : u1 = Value.ref a := r1
  obtain ⟨od, J, _⟩ := caught_inst I z fl hd
  exact PySem.W.kia_one (PySem.W.kitx_exc (od := od) T.cl T.ga T.gg T.sb T.ca T.sg T.tk T.ob) I.kIn J e (fun z => nomatch z)
    fun tk => ⟨.bl b, H, I.kept (t' := tk) fun _ _ z => z, rfl, q⟩
end
end Lf

set_option Elab.async false
set_option linter.all false
set_option maxRecDepth 100000
set_option maxHeartbeats 4000000
/-! raise X(e) of an own class with its __init__; try with clauses of which any may have `as`; repr of data. -/
namespace Lf
open PySem PySem.Spec PyProof.Rows L2
/-- raise X(e) -/
def tMk1 (C : Addr) (fl : Str) (ta : TE) : L2.St → Hp → XK → Prop := fun σ H Q => ta σ H fun v H1 => ∀ d H', H1 d = none → Same H1 H' → H' d = some (.xd [(fl, v)]) → Q (.ref C) (some d) H'
theorem pmk_err1 {X : Cx} {x fl t : Str} {e : Expr} {ta : TE} {p pos : Pos} (E : Err1 X.prog X.w X.K X.mg X.base x fl t) (hr : Room 2 X.A) (hg : Gl X x) (ha : PE X e ta)
    (hdb : (x == ("__debug__" : Str)) = false := by decide) (hs : starEach [e] X.env = (false, eval e X.env) :: starEach [] X.env := by rfl) :
    PMk X (.Call (.Name x p) [e] [] pos) (tMk1 (He.ga X.K x) fl ta) := by
  obtain ⟨fI, fd, i1, i2, F, b⟩ := E.ini
  have M := pmk_oex (X := X) (pos := pos) (p := p) (dvs := []) E.c.o i1 i2 F hr b .nil pass0 hg E.g (pa_cons (PE.up ha) pa_nil hs) hdb hs rfl
  intro pins s σ H Q I h
  refine M pins s σ H Q I ?_
  refine ⟨_, h, fun v H1 k => ⟨(by show 1 ≤ 1000; decide), fun a na => ⟨a, v, rfl, upd_same, fun d nd ne => ?_⟩⟩⟩
  have nd1 : H1 d = none := by rw [upd_ne ne] at nd; exact nd
  refine ⟨rfl, d, [(fl, v)], upd_same, by rw [upd_ne ne]; exact upd_same, nd1, ?_⟩
  refine k d _ nd1 (fun b o q => ?_) upd_same
  have n1 := ne_of_none q na
  have n2 := ne_of_none q nd1
  rw [upd_ne n2, del_ne n1, upd_ne n1, upd_ne n2, upd_ne n1]
  exact q
/-! ### clauses, with a name or without -/
abbrev Cl := Value × Option Nat × (Addr → Value → Option Addr → TS)
def asEnds (i : Nat) (D : Ends) : Ends := ⟨fun σ' H' => D.nx (σ'.set i none) H', D.rt, fun σ' H' => D.bk (σ'.set i none) H', fun σ' H' => D.ct (σ'.set i none) H'⟩
def wA (K : PySem.W.Frag) (Wout : WX) (D : Ends) : List Cl → WX
  | [] => Wout
  | (c, none, ts) :: r => fun cls d σ H => ∃ b, PySem.W.exmOne K cls c = some b ∧ (b = true → ∀ a, H a = none → ts a cls d D σ H) ∧ (b = false → wA K Wout D r cls d σ H)
  | (c, some i, ts) :: r => fun cls d σ H => ∃ b, PySem.W.exmOne K cls c = some b ∧ (b = true → ∀ a, H a = none → ts a cls d (asEnds i D) (σ.set i (some (.ref a))) H) ∧ (b = false → wA K Wout D r cls d σ H)
inductive HdA (X : Cx) : List ExceptHandler → List Cl → Prop
  | nil : HdA X [] []
  | plain {x : Str} {c : Value} {ts : Addr → Value → Option Addr → TS} {b1 : Stmt} {suite : List Stmt} {np p3 : Pos} {hds : List ExceptHandler} {l : List Cl} (nm : Names X x c)
      (hsu : ∀ (a : Addr) (o : Obj) (cls : Value) (d : Option Addr) (pn : List (Addr × Obj)), Zc cls d o → (∃ vs, o.data = .fields vs) → PSs (X.suite a ((a, o) :: pn)) (b1 :: suite) (ts a cls d)) (r : HdA X hds l) :
      HdA X (.ExceptHandler (some (.Name x np)) none (b1 :: suite) p3 :: hds) ((c, none, ts) :: l)
  | as {x n : Str} {c : Value} {i : Nat} {ts : Addr → Value → Option Addr → TS} {b1 : Stmt} {suite : List Stmt} {np p3 : Pos} {hds : List ExceptHandler} {l : List Cl} (nm : Names X x c) (ni : X.N[i]? = some n) (kd : X.env.kindOf n = some .local)
      (hsu : ∀ (a : Addr) (o : Obj) (cls : Value) (d : Option Addr) (pn : List (Addr × Obj)), Zc cls d o → (∃ vs, o.data = .fields vs) → PSs (X.suite a ((a, o) :: pn)) (b1 :: suite) (ts a cls d)) (r : HdA X hds l) :
      HdA X (.ExceptHandler (some (.Name x np)) (some n) (b1 :: suite) p3 :: hds) ((c, some i, ts) :: l)
section
variable {X : Cx} {body : List Stmt} {h0 : ExceptHandler} {hds : List ExceptHandler} {l : List Cl} {pos : Pos} {tb : WX → TS} {Wout : WX}
theorem ps_tryA (st : X.stack = X.env :: X.outer) (fr : X.env.frame = some X.env.locals) (nd : X.N.Nodup) (tk : Takes X Wout)
    (inner : ∀ (W : WX) (pn : List (Addr × Obj)) (xe : Value → Shared → Prop), Takes (X.tr pn xe) W → PassesOwn (model X.prog X.w) X.A X.env xe → PSs (X.tr pn xe) body (tb W))
    (hh : HdA X (h0 :: hds) l) : PS X (.Try body (h0 :: hds) [] [] pos) (fun D σ H => tb (wLen X.N.length (wA X.K Wout D l)) D σ H) := by
  refine ⟨fun pins s σ H D I0 h => ?_⟩
  have ok := I0.ok
  have fa : X.A.frames = some (X.env :: X.outer) := by rw [ok.frames, st]
  refine wpAny_Try_except ?_
  refine wpAny_mono ((inner (wLen X.N.length (wA X.K Wout D l)) (X.pn ++ pins) (fun e s1 => wpAny (model X.prog X.w) X.A (noteFrame e X.env) (fun _ s2 => wpAny (model X.prog X.w) X.A (setFlight e none) (fun _ s3 =>
    wpAny (model X.prog X.w) X.A (handleBy e X.env (h0 :: hds)) (SP X pins D) X.xe s3) X.xe s2) X.xe s1) (fun u s' q => ?_) PassesOwn.looking).run [] s σ H D (I0.toTry _) h) (fun f s1 q => ?_) (fun e s1 q => q)
  · obtain ⟨a, B, sI, pins', σ', H', cls, d, rfl, J', nb, up, sky, na, os, ag, w⟩ := q
    have J0 : Inv X pins σ' H' sI := J'.ofTry ok
    have sk : Sky B (X.env :: X.outer) a (Zc cls d) X.env.locals s'.heap := by rw [← st]; exact sky
    show wpAny (model X.prog X.w) X.A (noteFrame (.ref a) X.env) _ _ _
    refine Sky.land Zc.steady fa fr sk fun h1 g1 u1 => ?_
    have J1 : Inv X pins σ' H' { s' with heap := h1 } := J0.landed nb g1.1 (up.trans u1) os ag
    obtain ⟨o1, v1, e1, z1, d1⟩ := g1.there
    have off : a ∉ frs (X.env :: X.outer) := fun hm => by
      obtain ⟨_, o', e', nf⟩ := g1.2.2.1.mem hm
      rw [e1] at e'
      cases e'
      exact nf _ d1
    have nL : a ≠ X.env.locals := fun z => off (List.mem_filterMap.mpr ⟨X.env, List.mem_cons_self, by rw [fr, z]⟩)
    have nF : a ∉ X.fs := fun hm => by
      obtain ⟨e, he, q⟩ := List.mem_filterMap.mp hm
      exact off (List.mem_filterMap.mpr ⟨e, List.mem_cons_of_mem _ he, q⟩)
    have S1 := J1.suite e1 d1 na nL nF
    have L1 : PySem.W.Looks (model X.prog X.w) h1 (typeOf (.ref a)) cls := fun A Q E s k q => wpAny_typeOf_ref (k _ _ e1) (by rw [z1.1]; exact q)
    have asks : ∀ {y : Str} {cv : Value} {yp : Pos} {Q : Value → Shared → Prop} {E : Value → Shared → Prop}, Names X y cv → Q cv { s' with heap := h1 } → wpAny (model X.prog X.w) (X.A.mark (some (.ref a))) (eval (.Name y yp) X.env) Q E { s' with heap := h1 } := fun {y cv yp Q E} nm q => by
      obtain ⟨hg, hb, hm | ⟨hm, hv, hn⟩⟩ := nm
      · exact ld_glob (X := X.suite a ((a, o1) :: (X.pn ++ pins))) S1 hg hm q hb
      · exact ld_blt (X := X.suite a ((a, o1) :: (X.pn ++ pins))) S1 hg hm hv q hn hb
    have rest : ∀ {hs : List ExceptHandler} {l' : List Cl}, HdA X hs l' → wA X.K Wout D l' cls d σ' H' →
        wpAny (model X.prog X.w) X.A (handleBy (.ref a) X.env hs) (SP X pins D) X.xe { s' with heap := h1 } := by
      intro hs l' hk
      induction hk with
      | nil =>
        intro w
        refine wpAny_handleBy_nil ?_
        obtain ⟨k1, k2, k3, oe, vs, T, oT, ts', he, hz, hd, f1, hr⟩ := id g1
        unfold PySem.passOn
        refine wpAny_bind (wpAny_field he hd f1 ?_)
        rw [if_neg (show ¬ ((Value.ref T == Value.none) = true) from by simp)]
        have out : wpAny (model X.prog X.w) X.A (setFlight (.ref a) X.env.frame) (fun _ s4 => wpAny (model X.prog X.w) X.A (throw (.ref a) : Sem Flow) (SP X pins D) X.xe s4) X.xe { s' with heap := h1 } := by
          rw [fr]
          exact HandSPX.setFlight_upZ g1 fun h2 b2 u2 => wpAny_throw (tk _ _ ⟨a, B, sI, pins, σ', H', cls, d, rfl, J0, nb, (up.trans u1).trans u2, .inr (.inr (by rw [st]; exact b2)), na, os, ag, w⟩)
        first
          | exact wpAny_bind (wpAny_pure (wpAny_bind out))
          | exact wpAny_bind out
      | @plain y cv ts2 c1 suite2 yp p4 more2 l2 nm2 hsu r ih =>
        intro w
        obtain ⟨b, hb1, yes, no⟩ := w
        refine wpAny_handleBy_cons (codeAny_handlers_test ?_) (by intro q; cases q)
        refine asks nm2 ((PySem.W.exm_one (M := model X.prog X.w) J1.kIn L1 hb1).here ?_)
        cases b with
        | true =>
          refine codeAny_handlers_suite ?_
          refine HandSPX.lands_againZ g1 fun h2 g2 u2 => ?_
          have J2 : Inv X pins σ' H' { s' with heap := h2 } := J0.landed nb g2.1 ((up.trans u1).trans u2) os ag
          obtain ⟨o2, v2, e2, z2, d2⟩ := g2.there
          refine wpAny_mono ((hsu a o2 cls d (X.pn ++ pins) z2 ⟨_, d2⟩).run [] _ _ H' _ (J2.suite e2 d2 na nL nF) (yes rfl a na)) (fun f s6 q => ?_) (fun _ _ z => False.elim z)
          cases f with
          | ret u =>
            obtain ⟨v6, σ6, H6, S6, r6, q6⟩ := q
            exact ⟨_, _, _, S6.unsuite ok, r6, q6⟩
          | next => obtain ⟨σ6, H6, S6, q6⟩ := q; exact ⟨_, _, S6.unsuite ok, q6⟩
          | brk => obtain ⟨σ6, H6, S6, q6⟩ := q; exact ⟨_, _, S6.unsuite ok, q6⟩
          | cont => obtain ⟨σ6, H6, S6, q6⟩ := q; exact ⟨_, _, S6.unsuite ok, q6⟩
        | false =>
          show wpAny _ X.A (handleBy (.ref a) X.env more2) _ _ _
          exact ih (no rfl)
      | @as y n cv i ts2 c1 suite2 yp p4 more2 l2 nm2 ni kd hsu r ih =>
        intro w
        obtain ⟨b, hb1, yes, no⟩ := w
        refine wpAny_handleBy_cons (codeAny_handlers_test ?_) (by intro q; cases q)
        refine asks nm2 ((PySem.W.exm_one (M := model X.prog X.w) J1.kIn L1 hb1).here ?_)
        cases b with
        | false =>
          show wpAny _ X.A (handleBy (.ref a) X.env more2) _ _ _
          exact ih (no rfl)
        | true =>
          refine codeAny_handlers_suite_as ?_
          refine HandSPX.lands_againZ g1 fun h2 g2 u2 => ?_
          have J2 : Inv X pins σ' H' { s' with heap := h2 } := J0.landed nb g2.1 ((up.trans u1).trans u2) os ag
          obtain ⟨o2, v2, e2, z2, d2⟩ := g2.there
          have lc : Loc X.env.scope n := .inl kd
          refine store_ok (X := X.suite a ((a, o2) :: (X.pn ++ pins))) (v := .ref a) (J2.suite e2 d2 na nL nF) nd ni lc rfl (fun s5 S5 => ?_) (.inr kd)
          refine wpAny_mono ((hsu a o2 cls d (X.pn ++ pins) z2 ⟨_, d2⟩).run [] s5 _ H' _ S5 (yes rfl a na)) (fun f s6 q => ?_) (fun _ _ z => False.elim z)
          have gone : ∀ {σ6 : L2.St} {H6 : Hp} {Q : Shared → Prop}, Inv (X.suite a ((a, o2) :: (X.pn ++ pins))) [] σ6 H6 s6 → (∀ s7, Inv X pins (σ6.set i none) H6 s7 → Q s7) →
              wpAny (model X.prog X.w) X.A (do bindName X.env n .none; unbindBehindTheSuite X.env n p4) (fun _ s7 => Q s7) X.xe s6 := fun {σ6 H6 Q} S6 hq => gone_ok (S6.unsuite ok) nd ni kd hq
          cases f with
          | ret u =>
            obtain ⟨v6, σ6, H6, S6, r6, q6⟩ := q
            exact gone S6 fun s7 J7 => ⟨_, _, _, J7, r6, q6⟩
          | next => obtain ⟨σ6, H6, S6, q6⟩ := q; exact gone S6 fun s7 J7 => ⟨_, _, J7, q6⟩
          | brk => obtain ⟨σ6, H6, S6, q6⟩ := q; exact gone S6 fun s7 J7 => ⟨_, _, J7, q6⟩
          | cont => obtain ⟨σ6, H6, S6, q6⟩ := q; exact gone S6 fun s7 J7 => ⟨_, _, J7, q6⟩
    exact rest hh (w J0.len)
  · cases f with
    | ret u =>
      obtain ⟨v, σ', H', J', r, q⟩ := q
      exact ⟨v, σ', H', J'.ofTry ok, r, q⟩
    | next => obtain ⟨σ', H', J', q⟩ := q; exact wpAny_execs_nil ⟨σ', H', J'.ofTry ok, q⟩
    | brk => obtain ⟨σ', H', J', q⟩ := q; exact ⟨σ', H', J'.ofTry ok, q⟩
    | cont => obtain ⟨σ', H', J', q⟩ := q; exact ⟨σ', H', J'.ofTry ok, q⟩
end
/-! ### repr of data -/
theorem call_reprD {X : Cx} (hg : X.A.guards = some []) (hu : X.A.units + 9 < cLine) : CallR X (.builtin "repr") (fun xs H Q => ∃ v d, xs = [v] ∧ Dp X.K H v d ∧ d.showable = true ∧ d.hasDict = false ∧ d.depth ≤ 7 ∧ d.shown.length ≤ sizeLine ∧ Q (.str d.shown) H) := by
  intro pins s σ H xs us Q I r h
  obtain ⟨v, d, rfl, hd, sh, nd, dp, hz, q⟩ := h
  obtain ⟨u, rfl, rv⟩ := vals1 r
  obtain ⟨as, rd⟩ := Dp.reads I d v u hd rv
  cases rd with
  | none => exact P.repr_of_none ⟨.str "None", H, I.tok _, ⟨_, rfl⟩, q⟩
  | bool b =>
    refine P.repr_of_bool ⟨.str _, H, I.tok _, ⟨_, rfl⟩, ?_⟩
    exact q
  | int i t =>
    refine P.repr_of_int (by simpa [PyData.showable] using sh) ⟨.str _, H, I.tok _, ⟨_, rfl⟩, ?_⟩
    exact q
  | str x t =>
    refine P.repr_of_str ⟨.str _, H, I.tok _, ⟨_, rfl⟩, ?_⟩ hz
    exact q
  | list h1 h2 h3 h4 =>
    refine repr_of_reads' (h₀ := s.heap) (.list h1 h2 h3 h4) sh (fun z => by rw [nd] at z; cases z) hg (by omega) (fun _ _ z => z) (fun h' u tk hk => ?_) hz
    exact ⟨.str _, H, I.kept hk, ⟨u, rfl⟩, q⟩
  | tuple h1 h2 h3 h4 =>
    refine repr_of_reads' (h₀ := s.heap) (.tuple h1 h2 h3 h4) sh (fun z => by rw [nd] at z; cases z) hg (by omega) (fun _ _ z => z) (fun h' u tk hk => ?_) hz
    exact ⟨.str _, H, I.kept hk, ⟨u, rfl⟩, q⟩
  | dict h1 h2 h3 h4 h5 => rw [PyData.hasDict] at nd; cases nd
end Lf

set_option Elab.async false
set_option linter.all false
set_option maxRecDepth 100000
set_option maxHeartbeats 4000000
/-! What repr tells of data, held against what repr tells. -/
namespace Lf
open PySem PySem.Spec PyProof.Rows L2
/-- data that repr tells, in signs that stand -/
structure Rp (K : PySem.W.Frag) (H : Hp) (v : V) (d : PyData) : Prop where
  dp : Dp K H v d
  sh : d.showable = true
  nd : d.hasDict = false
  de : d.depth ≤ 7
  le : d.shown.length ≤ sizeLine
  ok : PyData.strOk d.shown = true
theorem Rp.same {K : PySem.W.Frag} {H H' : Hp} {v : V} {d : PyData} (h : Rp K H v d) (e : Same H H') : Rp K H' v d := ⟨dp_same e h.dp, h.sh, h.nd, h.de, h.le, h.ok⟩
theorem char_ok : ∀ c < 128, (∀ d ∈ Builtin.Str.reprChar 34 c, d < 1114112) ∧ ∀ d ∈ Builtin.Str.reprChar 39 c, d < 1114112 := by decide +kernel
theorem all_of {x : Str} (h : ∀ c ∈ x.cps.toList, c < 1114112) : PyData.strOk x = true := by
  unfold PyData.strOk
  rw [← Array.all_toList, List.all_eq_true]
  intro c hc
  exact decide_eq_true (h c hc)
theorem fold_signs {q : Nat} (hq : ∀ c < 128, ∀ d ∈ Builtin.Str.reprChar q c, d < 1114112) : ∀ (l : List Nat) (acc : Array Nat), (∀ c ∈ l, c < 128) → (∀ d ∈ acc.toList, d < 1114112) → ∀ d ∈ (l.foldl (fun out c => out ++ (Builtin.Str.reprChar q c).toArray) acc).toList, d < 1114112
  | [], acc, _, h => h
  | c :: r, acc, hl, h => by
    rw [List.foldl_cons]
    refine fold_signs hq r _ (fun d hd => hl d (List.mem_cons_of_mem _ hd)) fun d hd => ?_
    rw [Array.toList_append] at hd
    rcases List.mem_append.mp hd with z | z
    · exact h d z
    · exact hq c (hl c List.mem_cons_self) d z
theorem repr_signs {cs : List Nat} (h : ∀ c ∈ cs, c < 128) : PyData.strOk (reprText (tx cs)) = true := by
  refine all_of fun d hd => ?_
  unfold reprText at hd
  rw [Array.toList_push] at hd
  have hq : reprQuote (tx cs) = 34 ∨ reprQuote (tx cs) = 39 := by
    unfold reprQuote
    split
    · exact .inl rfl
    · exact .inr rfl
  have q1 : reprQuote (tx cs) < 1114112 := by rcases hq with z | z <;> omega
  rcases List.mem_append.mp hd with z | z
  · rw [← Array.foldl_toList] at z
    refine fold_signs (q := reprQuote (tx cs)) ?_ _ _ h ?_ d z
    · intro c hc
      rcases hq with y | y <;> rw [y]
      · exact (char_ok c hc).1
      · exact (char_ok c hc).2
    · intro d hd
      rw [List.mem_singleton.mp hd]
      exact q1
  · rw [List.mem_singleton.mp z]
    exact q1
theorem rp_txt {K : PySem.W.Frag} {H : Hp} {cs : List Nat} (h : ∀ c ∈ cs, c < 128) (l : cs.length ≤ 100000) : Rp K H (.str (tx cs)) (.str (tx cs)) where
  dp := .str _
  sh := rfl
  nd := rfl
  de := by show 0 ≤ 7; decide
  le := by
    have := StrLaws.reprText_len (tx cs) fun c hc => by
      have := h c hc
      have : (128 : Nat) < 16 ^ 8 := by decide
      omega
    rw [tx_len] at this
    show (reprText (tx cs)).length ≤ 16777216
    omega
  ok := repr_signs h
/-- a tuple of two texts -/
theorem dp_pair {K : PySem.W.Frag} {H : Hp} {t : Addr} {a b : Str} (h : H t = some (.tup [.str a, .str b])) : Dp K H (.ref t) (.tuple [.str a, .str b]) := .tup (SqT.of h) (.cons (.str a) (.cons (.str b) .nil))
theorem pair_shaped {a b : Str} (ha : PyData.strOk a = true) (hb : PyData.strOk b = true) : SeqAt.shaped (.tuple [.str a, .str b]) = true := by
  unfold SeqAt.shaped
  simp [PyData.canLay0, PyData.canLayAll0, PyData.depth, PyData.depthAll, ha, hb]
end Lf

set_option Elab.async false
set_option linter.all false
set_option maxRecDepth 100000
set_option maxHeartbeats 8000000
namespace K18
open PySem PySem.Spec PyProof.Rows L2 Lf LamX
/-- all words of a length, in order -/
def lvl (wd : Nat) : Nat → List (List Nat)
  | 0 => [[]]
  | k + 1 => (lvl wd k).flatMap fun u => (List.range wd).map fun c => u ++ [c]
theorem fl_len {wd : Nat} : ∀ {l : List (List Nat)}, (l.flatMap fun u => (List.range wd).map fun c => u ++ [c]).length = l.length * wd
  | [] => by simp
  | a :: l => by rw [List.flatMap_cons, List.length_append, fl_len, List.length_map, List.length_range, List.length_cons, Nat.succ_mul, Nat.add_comm]
theorem lvl_len {wd : Nat} : ∀ k, (lvl wd k).length = wd ^ k
  | 0 => rfl
  | k + 1 => by rw [lvl, fl_len, lvl_len k, Nat.pow_succ]
theorem lvl_word {wd : Nat} : ∀ {k : Nat} {w : List Nat}, w ∈ lvl wd k → w.length = k ∧ ∀ c ∈ w, c < wd
  | 0, w, h => by
    rw [List.mem_singleton.mp h]
    exact ⟨rfl, fun c hc => nomatch hc⟩
  | k + 1, w, h => by
    obtain ⟨u, hu, hw⟩ := List.mem_flatMap.mp h
    obtain ⟨c, hc, rfl⟩ := List.mem_map.mp hw
    obtain ⟨a, b⟩ := lvl_word hu
    refine ⟨by simp [a], fun d hd => ?_⟩
    rcases List.mem_append.mp hd with z | z
    · exact b d z
    · rw [List.mem_singleton.mp z]
      exact List.mem_range.mp hc
/-- what a word is found with by going through all words -/
def byAt (rows : List (List Nat)) (m : List (Nat × Nat)) (u : List Nat) : List (List Nat × List Nat) :=
  if Mon.W m (Mon.walk rows 0 u) ≠ u ∧ ((partsP u).filter fun p => decide (p ∉ Mon.wordTab m)) = [] then [(u, Mon.W m (Mon.walk rows 0 u))] else []
def byW (rows : List (List Nat)) (m : List (Nat × Nat)) (wd most : Nat) : List (List Nat × List Nat) := (List.range most).flatMap fun k => (lvl wd (k + 1)).flatMap (byAt rows m)
/-- pairs of a word and what it does, as they lie -/
structure Pwi (H : Hp) (D : Addr) (prs : List Addr) (us : List (List Nat)) (img : List Nat → List Nat) : Prop where
  at' : H D = some (.lst (prs.map V.ref))
  len : prs.length = us.length
  el : ∀ (j : Nat) a u, prs[j]? = some a → us[j]? = some u → ∃ b, H a = some (.tup [wv u, .ref b]) ∧ H b = some (.tup ((img u).map nv))
theorem Pwi.same {H H' : Hp} {D : Addr} {prs : List Addr} {us : List (List Nat)} {img : List Nat → List Nat} (h : Pwi H D prs us img) (e : Same H H') : Pwi H' D prs us img :=
  ⟨e _ _ h.at', h.len, fun j a u h1 h2 => by
    obtain ⟨b, e1, e2⟩ := h.el j a u h1 h2
    exact ⟨b, e _ _ e1, e _ _ e2⟩⟩
theorem Pwi.add {H : Hp} {D t b : Addr} {ps : List Addr} {us : List (List Nat)} {u : List Nat} {img : List Nat → List Nat} (h : Pwi H D ps us img) (ht : H t = some (.tup [wv u, .ref b])) (hb : H b = some (.tup ((img u).map nv))) : Pwi (L2.upd H D (.lst (ps.map V.ref ++ [.ref t]))) D (ps ++ [t]) (us ++ [u]) img := by
  refine ⟨by rw [upd_same]; simp, by simp [h.len], fun j a r h1 h2 => ?_⟩
  have f : ∃ b, H a = some (.tup [wv r, .ref b]) ∧ H b = some (.tup ((img r).map nv)) := by
    rcases Mon.snoc_cases h1 with h1 | ⟨e1, rfl⟩
    · rcases Mon.snoc_cases h2 with h2 | ⟨e2, rfl⟩
      · exact h.el j a r h1 h2
      · have := get_lt h1
        have := h.len
        omega
    · rcases Mon.snoc_cases h2 with h2 | ⟨_, rfl⟩
      · have := get_lt h2
        have := h.len
        omega
      · exact ⟨b, ht, hb⟩
  obtain ⟨b', e1, e2⟩ := f
  exact ⟨b', by rw [upd_ne (fun z => by rw [z, h.at'] at e1; cases e1)]; exact e1, by rw [upd_ne (fun z => by rw [z, h.at'] at e2; cases e2)]; exact e2⟩
theorem Pwi.but {H H' : Hp} {D B : Addr} {prs : List Addr} {us : List (List Nat)} {img : List Nat → List Nat} {xs : List V} (h : Pwi H D prs us img) (e : But B H H') (hB : H B = some (.lst xs)) (ne : D ≠ B) : Pwi H' D prs us img :=
  ⟨e _ _ ne h.at', h.len, fun j a u h1 h2 => by
    obtain ⟨b, e1, e2⟩ := h.el j a u h1 h2
    exact ⟨b, e _ _ (fun z => by rw [z, hB] at e1; cases e1) e1, e _ _ (fun z => by rw [z, hB] at e2; cases e2) e2⟩⟩
theorem by_few {rows : List (List Nat)} {m : List (Nat × Nat)} : ∀ {l : List (List Nat)}, (l.flatMap (byAt rows m)).length ≤ l.length
  | [] => by simp
  | u :: l => by
    rw [List.flatMap_cons, List.length_append, List.length_cons]
    have := by_few (rows := rows) (m := m) (l := l)
    have : (byAt rows m u).length ≤ 1 := by
      unfold byAt
      split <;> simp
    omega
/-- words as data -/
def dW (x : List Nat) : PyData := .str (ws x)
theorem dW_lay {x : List Nat} (h : ∀ c ∈ x, c < 6) : (dW x).canLay0 = true ∧ (dW x).depth ≤ 0 := by
  refine ⟨?_, by simp [dW, PyData.depth]⟩
  show PyData.strOk (ws x) = true
  refine all_of fun c hc => ?_
  obtain ⟨d, hd, rfl⟩ := List.mem_map.mp (show c ∈ x.map fun c => 97 + c from by simpa [ws] using hc)
  have := h d hd
  omega
theorem words_sh {l : List (List Nat)} (h : ∀ x ∈ l, ∀ c ∈ x, c < 6) : SeqAt.shaped (.list (l.map dW)) = true := sh_lay (lst_lay fun d hd => by
  obtain ⟨x, hx, rfl⟩ := List.mem_map.mp hd
  exact dW_lay (h x hx)) (by decide)
theorem dpW {K : PySem.W.Frag} {H : Hp} : ∀ {l : List (List Nat)}, DpAll K H (l.map wv) (l.map dW)
  | [] => .nil
  | x :: l => .cons (.str _) dpW
theorem inV_wv {t : List Nat} {l : List (List Nat)} : inV (wv t) (l.map wv) = decide (t ∈ l) := by
  induction l with
  | nil => rfl
  | cons a r ih =>
    unfold inV at ih ⊢
    rw [List.map_cons, List.any_cons, ih]
    show (ws a == ws t || decide (t ∈ r)) = _
    rw [Bool.eq_iff_iff]
    simp only [Bool.or_eq_true, beq_iff_eq, decide_eq_true_eq, List.mem_cons]
    constructor
    · rintro (h | h)
      · exact .inl (ws_inj h).symm
      · exact .inr h
    · rintro (h | h)
      · exact .inl (by rw [h])
      · exact .inr h
theorem all_wv {l : List (List Nat)} : (l.map wv).all flatV = true := by
  rw [List.all_eq_true]
  intro x hx
  obtain ⟨a, _, rfl⟩ := List.mem_map.mp hx
  rfl
theorem part_in {u p : List Nat} (h : p ∈ partsP u) : ∀ d ∈ p, d ∈ u := by
  unfold partsP partsAt at h
  obtain ⟨b, _, h⟩ := List.mem_flatMap.mp h
  obtain ⟨k, _, rfl⟩ := List.mem_map.mp h
  intro d hd
  exact List.mem_of_mem_drop (List.mem_of_mem_take hd)
theorem flat_le {α β : Type} {f : α → List β} {b : Nat} : ∀ {l : List α}, (∀ a ∈ l, (f a).length ≤ b) → (l.flatMap f).length ≤ l.length * b
  | [], _ => by simp
  | a :: l, h => by
    rw [List.flatMap_cons, List.length_append, List.length_cons, Nat.succ_mul]
    have := h a List.mem_cons_self
    have := flat_le fun x hx => h x (List.mem_cons_of_mem _ hx)
    omega
theorem parts_few {u : List Nat} (h : u.length ≤ 100) : (partsP u).length ≤ 100 * 101 := by
  have q : (partsP u).length ≤ (List.range u.length).length * 101 := flat_le fun b hb => by
    unfold partsAt
    rw [List.length_map]
    have := List.length_filter_le (fun k => decide (k < u.length)) (List.range (u.length + 1 - b))
    rw [List.length_range] at this
    omega
  rw [List.length_range] at q
  have : u.length * 101 ≤ 100 * 101 := Nat.mul_le_mul_right _ h
  omega
def spByW (K : PySem.W.Frag) : Sp := fun vs H Q _ => ∃ pr pf lw n gens found rows m most, vs = [.ref pr, .ref pf, .ref lw, .int (most : Nat)] ∧ Maps H pr gens ∧ Maps H pf found ∧ SqL K H lw ((Mon.wordTab m).map wv) ∧ Mon.Tab n gens found rows ∧ n ≤ 4 ∧ Form rows gens.length ∧ Mon.madeTab 0 rows [] = some m ∧ m.length + 1 = rows.length ∧ found.length ≤ 256 ∧
  most ≤ 8 ∧ (∀ k, k ≤ most → gens.length ^ k ≤ 216) ∧ ∀ l prs H', Same H H' → H l = none → Prw H' l prs (byW rows m gens.length most) → Q (.ref l) H'
abbrev NBY : List Str := ["_law_rows", "_law_found", "_law_words", "_law_most", "_law_layer", "_law_pairs", "_law_numbers", "_law_turn", "_law_longer", "_law_word", "_law_images", "_law_letter", "_law_row", "_law_least", "_law_image", "_law_part"]
abbrev teIg (K : PySem.W.Frag) : TE := tOp (rIxT K) (tVar 12) (tVar 14)
abbrev ttBy (K : PySem.W.Frag) : TT := tTest (tOp (rIn K true) (tVar 15) (tVar 2))
section
variable {P : Program} {w : World} {K : PySem.W.Frag} {mg : Str → Option Value} {base : Heap}
theorem scByW : FnScope NBY ["_law_rows", "_law_found", "_law_words", "_law_most"] (defScope s_L_by_words) := ⟨rfl, rfl, rfl, by decide +kernel, rfl, by decide +kernel, by decide +kernel⟩
theorem ok_byW {f : Addr} {fd : FuncData} {q : Str} (F : FunD K "_law_by_words" q (defArgs s_L_by_words) (defBody s_L_by_words) (defScope s_L_by_words) [] [] f fd) (zr : mg "range" = none) (zn : mg "len" = none) (zd : mg "dict" = none) (zz : mg "zip" = none) (zt : mg "tuple" = none)
    (DP : Def P w K mg base CX0 1 "_law_parts" ["_law_word"] spParts) :
    FnOk P w K mg base CX0 2 f fd ["_law_rows", "_law_found", "_law_words", "_law_most"] (spByW K) := by
  refine F.ok scByW (fun vs H Q E h => ?_) (fun cdv A outer s H vs Q E hr h => ?_)
  · obtain ⟨pr, pf, lw, n, gens, found, rows, m, most, rfl, _⟩ := h
    rfl
  · obtain ⟨pr, pf, lw, n, gens, found, rows, m, most, rfl, MG, MF, hW, T, n4, FO, hm, lm, f256, m8, pw8, k⟩ := h
    have hu : (A.deeper (envOfC q (defScope s_L_by_words) s.heap.objs.size f cdv)).units + 64 < cLine := hr.units
    have hu9 : (A.deeper (envOfC q (defScope s_L_by_words) s.heap.objs.size f cdv)).units + 9 < cLine := by omega
    have hu1 : (A.deeper (envOfC q (defScope s_L_by_words) s.heap.objs.size f cdv)).units + 1 < cLine := by omega
    refine ⟨_, PSs.nox (pss_cons (ps_par3 (i := 4) (j := 5) (l := 6) rfl scByW.nd rfl rfl rfl (by decide) (by decide) (by decide) rfl rfl rfl
        (pa_cons (pe_lst (pa_cons (pe_tup (pa_cons pe_str (pa_cons (pe_ix ix_list (pv 1) pe_int (fun _ _ => rfl)) pa_nil))) pa_nil)) (pa_cons (pe_lst pa_nil) (pa_cons (pe_dictZip hu9 rfl rfl zd rfl zz (pv 1) (prg_1 rfl zr (pe_callB call_len_seq rfl zn boot_len (pa_cons (pv 1) pa_nil)))) pa_nil))) (by rfl))
      (pss_cons (ps_for PassesOwn.never rfl (pi_range1 rfl zr (pa_cons (pv 3) pa_nil)) (pg_name (i := 7) scByW.nd rfl (.inl rfl))
        (pss_cons (ps_set (i := 8) scByW.nd rfl (.inl rfl) (pe_lst pa_nil))
        (pss_cons (ps_for PassesOwn.never rfl (pi_list (pv 4)) (pg_tup rfl (pgs_cons (pg_name (i := 9) scByW.nd rfl (.inl rfl)) (pgs_cons (pg_name (i := 10) scByW.nd rfl (.inl rfl)) pgs_nil)))
          (pss_one (ps_for PassesOwn.never rfl (pi_zips rfl zz (pa_cons pe_str (pa_cons (pv 0) pa_nil))) (pg_tup rfl (pgs_cons (pg_name (i := 11) scByW.nd rfl (.inl rfl)) (pgs_cons (pg_name (i := 12) scByW.nd rfl (.inr rfl)) pgs_nil)))
            (pss_one (ps_expr (pe_bm PySem.F.plainAttrs_list PySem.F.slot_list_append PySem.F.type_list_append mt_append (pv 8) (pa_cons (pe_tup (pa_cons (pe_op op_add_str (pv 9) (pv 11)) (pa_cons
              (pe_callTy call_tuple_of rfl zt PyProof.Rows.boot_tuple (pa_cons (pe_lc (own := [("_law_image", 14)]) (g := gName 14) (te := teIg K) (by rfl) scByW.nd (pi_tup (pv 10)) (blkOk_by (own := [("_law_image", 14)]) (N := NBY) (sc := defScope s_L_by_words) (by decide +kernel)) (fun _ _ _ _ _ => pg_name (i := 14) scByW.nd rfl (Or.inl rfl)) (fun _ _ _ _ _ => pts_nil)
                (fun _ _ _ _ _ => by exact pe_ix ix_tup (pv 12) (pv 14) (fun _ _ => rfl))) pa_nil)) pa_nil))) pa_nil)))))))
        (pss_cons (ps_for PassesOwn.never rfl (pi_list (pv 8)) (pg_tup rfl (pgs_cons (pg_name (i := 9) scByW.nd rfl (.inl rfl)) (pgs_cons (pg_name (i := 10) scByW.nd rfl (.inl rfl)) pgs_nil)))
          (pss_cons (ps_set (i := 13) scByW.nd rfl (.inl rfl) (pe_ix ix_list (pv 2) (pe_dget hu1 (pv 6) (pv 10) (fun _ _ => rfl)) (fun _ _ => rfl)))
          (pss_one (ps_if (PW.pt (pw_and (pt_cmpR op_ne (pv 13) (pv 9) (nomark _)) (pw_and1 (pt_cmpR (op_eqD hu) (pe_lc (own := [("_law_part", 15)]) (g := gName 15) (tt := ttBy K) (te := tVar 15) (by rfl) scByW.nd (pi_list (pe_def DP hr pass0 rfl (pa_cons (pv 9) pa_nil))) (blkOk_by (own := [("_law_part", 15)]) (N := NBY) (sc := defScope s_L_by_words) (by decide +kernel)) (fun _ _ _ _ _ => pg_name (i := 15) scByW.nd rfl (Or.inl rfl))
                (fun _ _ _ _ _ => by exact pts_one (pt_cmpR op_notIn_seq (pv 15) (pv 2) (by rfl))) (fun _ _ _ _ _ => pv 15)) (pe_lst pa_nil) (nomark _)))))
            (pss_one (ps_expr (pe_bm PySem.F.plainAttrs_list PySem.F.slot_list_append PySem.F.type_list_append mt_append (pv 5) (pa_cons (pe_tup (pa_cons (pv 9) (pa_cons (pv 13) pa_nil))) pa_nil)))) pss_nil))))
        (pss_one (ps_set (i := 4) scByW.nd rfl (.inl rfl) (pv 8)))))))
      (pss_one (ps_ret (pv 5))))), ?_⟩
    have rl := T.len
    have g1 := FO.2.2.1
    have w6 := FO.2.2.2.1
    have f5 := FO.2.2.2.2
    have n0 := FO.1
    have nd := T.nd
    have wl : (Mon.wordTab m).length = rows.length := by rw [Mon.word_len, lm]
    obtain ⟨fs, hfs, lfs, efs⟩ := id MF.ex
    obtain ⟨gs, hgs, lgs, egs⟩ := id MG.ex
    obtain ⟨a0, ha0⟩ := lt_get (show 0 < fs.length by omega)
    have e0 := efs 0 a0 _ ha0 T.head
    have walk : ∀ u, (∀ d ∈ u, d < gens.length) → found[Mon.walk rows 0 u]? = some (Mon.compW gens (Mon.idm n) u) := fun u hu' => T.walk T.head hu'
    have lvl216 : ∀ k, k ≤ most → (lvl gens.length k).length ≤ 216 := fun k hk => by rw [lvl_len]; exact pw8 k hk
    refine ⟨_, rfl, pf, _, _, .ref a0, rfl, rfl, SqL.of hfs, atI_nat (j := 0) (get_map ha0), (by show 2 ≤ sizeLine; decide), fun t0 nt0 => ⟨(by show 1 ≤ sizeLine; decide), fun ly nly => ⟨(by show 0 ≤ sizeLine; decide), fun B nB => ?_⟩⟩⟩
    have u1 := same_upd (o := .tup [V.str ("" : Str), .ref a0]) nt0
    have u2 := same_upd (o := .lst [V.ref t0]) nly
    have u3 := same_upd (o := .lst []) nB
    have s3 := u1.trans (u2.trans u3)
    have nB0 := nil_of (u1.trans u2) nB
    have P3 : Pwi (L2.upd (L2.upd (L2.upd H t0 (.tup [V.str ("" : Str), .ref a0])) ly (.lst [V.ref t0])) B (.lst [])) ly [t0] (lvl gens.length 0) (Mon.compW gens (Mon.idm n)) := ⟨u3 _ _ upd_same, rfl, fun j a u h1 h2 => by
      cases j with
      | zero => cases h1; cases h2; exact ⟨a0, u3 _ _ (u2 _ _ upd_same), s3 _ _ e0⟩
      | succ j => simp at h1⟩
    have B3 : Prw (L2.upd (L2.upd (L2.upd H t0 (.tup [V.str ("" : Str), .ref a0])) ly (.lst [V.ref t0])) B (.lst [])) B [] ((List.range 0).flatMap fun k => (lvl gens.length (k + 1)).flatMap (byAt rows m)) := Prw.nil upd_same
    generalize L2.upd (L2.upd (L2.upd H t0 (.tup [V.str ("" : Str), .ref a0])) ly (.lst [V.ref t0])) B (.lst []) = H3 at s3 P3 B3 ⊢
    clear u1 u2 u3 nt0 nly nB
    refine ⟨_, rfl, _, rfl, pf, _, rfl, .inl (SqL.of (s3 _ _ hfs)), ((found.length : Nat) : Int), by rw [List.length_map, lfs], pf, fs, found, rfl, rfl, rfl, by omega, SqL.of (s3 _ _ hfs), lfs, (fun j b x h1 h2 => s3 _ _ (efs j b x h1 h2)), nd, fun d ndd => ⟨_, _, _, rfl, ?_⟩⟩
    have u4 := same_upd (o := .dT (dtab found)) ndd
    have s4 := s3.trans u4
    have P4 := P3.same u4
    have B4 := B3.same u4
    have hd4 : L2.upd H3 d (.dT (dtab found)) d = some (.dT (dtab found)) := upd_same
    generalize L2.upd H3 d (.dT (dtab found)) = H4 at s4 P4 B4 hd4 ⊢
    clear u4 ndd P3 B3 s3
    have nlB : ly ≠ B := fun z => by
      have a := P4.at'
      rw [z, B4.at'] at a
      simp at a
    refine ⟨_, rfl, ((most : Nat) : Int), rfl, by omega, by omega, ?_⟩
    refine for_range (lo := 0) (n := most) (fun t σ Hc => ∃ (v7 v8 v9 v10 v11 v12 v13 : Option V) (ly : Addr) (prs bs : List Addr), σ = [some (.ref pr), some (.ref pf), some (.ref lw), some (.int (most : Nat)), some (.ref ly), some (.ref B), some (.ref d), v7, v8, v9, v10, v11, v12, v13, none, none] ∧ Same H Hc ∧ Hc d = some (.dT (dtab found)) ∧ Pwi Hc ly prs (lvl gens.length t) (Mon.compW gens (Mon.idm n)) ∧ Prw Hc B bs ((List.range t).flatMap fun k => (lvl gens.length (k + 1)).flatMap (byAt rows m)) ∧ ly ≠ B)
      ⟨none, none, none, none, none, none, none, ly, _, _, rfl, s4, hd4, P4, B4, nlB⟩ (fun t σ Hc ht ⟨v7, v8, v9, v10, v11, v12, v13, ly, prs, bs, eσ, sc, hdc, PL, PB, nlB⟩ => ?_) (fun σ Hc ⟨v7, v8, v9, v10, v11, v12, v13, ly, prs, bs, eσ, sc, hdc, PL, PB, nlB⟩ => ?_)
    · subst eσ
      refine ⟨(by show 0 ≤ sizeLine; decide), fun lg nlg => ?_⟩
      have ngB : lg ≠ B := fun z => by have := PB.at'; rw [← z, nlg] at this; cases this
      have u5 := same_upd (o := .lst []) nlg
      have G5 : Pwi (L2.upd Hc lg (.lst [])) lg [] (((lvl gens.length t).take 0).flatMap fun u => (List.range gens.length).map fun c => u ++ [c]) (Mon.compW gens (Mon.idm n)) := ⟨upd_same, rfl, fun j a u h => by simp at h⟩
      generalize L2.upd Hc lg (.lst []) = H5 at u5 G5 ⊢
      have PL5 := PL.same u5
      refine ⟨_, rfl, ly, rfl, ⟨_, SqL.of PL5.at'⟩, for_list (K := K) (a := ly) (xs := prs.map V.ref) (fun j σ Hd => ∃ (v9 v10 v11 v12 : Option V) (ls : List Addr), σ = [some (.ref pr), some (.ref pf), some (.ref lw), some (.int (most : Nat)), some (.ref ly), some (.ref B), some (.ref d), some (.int (0 + (t : Nat))), some (.ref lg), v9, v10, v11, v12, v13, none, none] ∧ Same Hc Hd ∧ Pwi Hd lg ls (((lvl gens.length t).take j).flatMap fun u => (List.range gens.length).map fun c => u ++ [c]) (Mon.compW gens (Mon.idm n)))
        ⟨v9, v10, v11, v12, [], rfl, u5, G5⟩ (fun j σ Hd _ ⟨_, _, _, _, _, _, sd, _⟩ => SqL.of (PL.same sd).at') (fun j x σ Hd hx ⟨v9, v10, v11, v12, ls, eσ, sd, G⟩ => ?_) (fun σ Hd ⟨v9, v10, v11, v12, ls, eσ, sd, G⟩ => ?_)⟩
      · subst eσ
        obtain ⟨a, ha, rfl⟩ := map_get hx
        obtain ⟨u, hu'⟩ := lt_get (show j < (lvl gens.length t).length by have := get_lt ha; have := PL.len; omega)
        obtain ⟨ul, uw⟩ := lvl_word (List.mem_of_getElem? hu')
        obtain ⟨ib, e1, e2⟩ := PL.el j a u ha hu'
        refine ⟨a, _, rfl, SqT.of (sd _ _ e1), rfl, _, _, rfl, _, _, rfl, rfl, ?_⟩
        have s6 := sc.trans sd
        have wk : Walk (Itzs K ("abcdef" : Str) pr) (gs.map V.ref).length (fun H2 => Same H H2) (fun i H v H' => ∃ (T : Addr) (c : Nat) (y : V), v = .ref T ∧ H T = none ∧ H' = L2.upd H T (.tup [.str ⟨#[c]⟩, y]) ∧ ("abcdef" : Str).cps[i]? = some c ∧ (gs.map V.ref)[i]? = some y) :=
          (walk_zips (x := ("abcdef" : Str)) (ys := gs.map V.ref) (by rw [List.length_map]; show gs.length ≤ 6; omega)).mono (fun H s => L2.Same.seq s (SqL.of hgs)) (fun i H x H' _ _ y => y)
        refine ⟨_, rfl, _, pr, gs.map V.ref, rfl, SqL.of (s6 _ _ hgs), for_it wk (fun c σ He => ∃ (v11 v12 : Option V) (ls : List Addr), σ = [some (.ref pr), some (.ref pf), some (.ref lw), some (.int (most : Nat)), some (.ref ly), some (.ref B), some (.ref d), some (.int (0 + (t : Nat))), some (.ref lg), some (wv u), some (.ref ib), v11, v12, v13, none, none] ∧ Same H He ∧ Same Hc He ∧ Pwi He lg ls ((((lvl gens.length t).take j).flatMap fun u => (List.range gens.length).map fun c => u ++ [c]) ++ (List.range c).map fun c => u ++ [c]) (Mon.compW gens (Mon.idm n)))
          ⟨v11, v12, ls, rfl, s6, sd, by simpa using G⟩ (fun c σ He _ ⟨_, _, _, _, z, _⟩ => z) (fun c y σ He H' hc ⟨v11, v12, ls, eσ, se, sce, G⟩ ⟨T2, cc, z, ey, nT2, eH, hcc, hz⟩ => ?_) (fun σ He ⟨v11, v12, ls, eσ, se, sce, G⟩ => ?_)⟩
        · subst eσ ey eH
          obtain ⟨bg, hbg, rfl⟩ := map_get hz
          have cl := get_lt hbg
          obtain ⟨g, hg⟩ := lt_get (show c < gens.length by omega)
          have c6 := letter_at (show c < 6 by omega) hcc
          subst c6
          have vg := T.vg g (List.mem_of_getElem? hg)
          have hx0 := walk u uw
          have vx := T.vf hx0
          refine ⟨T2, _, rfl, SqT.of upd_same, rfl, _, _, rfl, _, _, rfl, rfl, ?_⟩
          have u7 := same_upd (o := .tup [.str ⟨#[97 + c]⟩, .ref bg]) nT2
          have s7 := se.trans u7
          have sc7 := sce.trans u7
          have G7 := G.same u7
          generalize L2.upd He T2 (.tup [.str ⟨#[97 + c]⟩, .ref bg]) = H7 at s7 sc7 G7 ⊢
          clear u7 nT2 G sce se
          have hg7 := s7 _ _ (egs c bg g hbg hg)
          have hib := sc7 _ _ e2
          generalize hxx : Mon.compW gens (Mon.idm n) u = xx at hx0 vx hib
          refine ⟨_, rfl, .inl ⟨rfl, _, SqL.of G7.at'⟩, _, rfl, _, rfl, ws u, ⟨#[97 + c]⟩, rfl, rfl, (by rw [ws_len]; show u.length + 1 ≤ 16777216; omega), _, rfl, ib, rfl, ⟨_, SqT.of hib⟩, fun D nD => ?_⟩
          rw [ws_app]
          refine lc_tup (K := K) (a := ib) (xs := xx.map nv) (fun j Hf => But D H7 Hf ∧ Hf D = some (.lst (((xx.take j).map fun i => g.getD i 0).map nv))) ⟨But.upd, upd_same⟩ (fun j Hf _ ⟨bf, _⟩ => SqT.of ((Same.but (L2.Same.refl _) nD bf) _ _ hib)) (fun j z Hf hz ⟨bf, hD⟩ => ?_) (fun Hf ⟨bf, hD⟩ => ?_)
          · obtain ⟨xi, hxi, rfl⟩ := map_get hz
            have sf := Same.but (L2.Same.refl _) nD bf
            obtain ⟨e, he⟩ := lt_get (show xi < g.length by rw [vg.1]; exact vx.2 xi (List.mem_of_getElem? hxi))
            refine ⟨rfl, yesT ?_⟩
            refine ⟨_, rfl, _, rfl, bg, g.map nv, _, nv e, rfl, rfl, SqT.of (sf _ _ hg7), atI_nat (get_map he), _, hD, ?_, bf.trans But.upd, ?_⟩
            · rw [List.length_map, List.length_map, List.length_take]
              have := vx.1
              show min j xx.length < 16777216
              omega
            · rw [upd_same, take_snoc hxi, List.map_append, List.map_append, List.map_cons, List.map_nil, List.map_cons, List.map_nil, Mon.getD_of he]
          · rw [List.length_map, List.take_length] at hD
            have sf := Same.but (L2.Same.refl _) nD bf
            refine ⟨D, _, rfl, .inl ⟨SqL.of hD, fun N nN => ⟨(by show 2 ≤ sizeLine; decide), fun t2 nt2 => ?_⟩⟩⟩
            have u8 := same_upd (o := .tup ((xx.map fun i => g.getD i 0).map nv)) nN
            have u9 := same_upd (o := .tup [V.str (ws (u ++ [c])), V.ref N]) nt2
            have s79 := sf.trans (u8.trans u9)
            have G9 := G7.same s79
            refine ⟨lg, _, _, rfl, rfl, G9.at', ?_, ?_⟩
            · rw [List.length_map, G9.len, List.length_append, List.length_map, List.length_range]
              have q1 : (((lvl gens.length t).take j).flatMap fun u => (List.range gens.length).map fun c => u ++ [c]).length = ((lvl gens.length t).take j).length * gens.length := fl_len
              have q2 := lvl216 t (by omega)
              have q3 : ((lvl gens.length t).take j).length ≤ 216 := by rw [List.length_take]; omega
              have q4 := Nat.mul_le_mul q3 w6
              rw [q1]
              show _ < 16777216
              omega
            · have nlg0 : H lg = none := nil_of sc nlg
              refine ⟨_, _, ls ++ [t2], rfl, fun b o e => ?_, fun b o e => ?_, ?_⟩
              · rw [upd_ne (ne_of_none e nlg0)]
                exact s79 _ _ (s7 b o e)
              · rw [upd_ne (ne_of_none e nlg)]
                exact s79 _ _ (sc7 b o e)
              · have e1 : (List.range (c + 1)).map (fun c => u ++ [c]) = (List.range c).map (fun c => u ++ [c]) ++ [u ++ [c]] := by rw [List.range_succ, List.map_append]; rfl
                rw [e1, ← List.append_assoc]
                have ei : Mon.compW gens (Mon.idm n) (u ++ [c]) = xx.map fun i => g.getD i 0 := by
                  unfold Mon.compW at hxx ⊢
                  rw [List.foldl_append, hxx]
                  show Mon.comp xx (gens.getD c []) = _
                  rw [Mon.getD_of hg]
                  rfl
                exact G9.add upd_same (by rw [ei]; exact u9 _ _ upd_same)
        · subst eσ
          rw [List.length_map, lgs] at G
          refine ⟨_, _, _, _, ls, rfl, sce, ?_⟩
          rw [take_snoc hu', List.flatMap_append]
          simpa using G
      · subst eσ
        have el : (prs.map V.ref).length = (lvl gens.length t).length := by rw [List.length_map, PL.len]
        rw [el, List.take_length] at G
        change Pwi Hd lg ls (lvl gens.length (t + 1)) _ at G
        have s6 := sc.trans sd
        have PB6 := PB.same sd
        have hd6 := sd _ _ hdc
        have nBd : d ≠ B := fun z => by have := PB6.at'; rw [← z, hd6] at this; cases this
        have l216 := lvl216 (t + 1) (by omega)
        have bl : ∀ t', t' ≤ most → ((List.range t').flatMap fun k => (lvl gens.length (k + 1)).flatMap (byAt rows m)).length ≤ t' * 216 := fun t' => by
          induction t' with
          | zero => intro _; simp
          | succ t' ih =>
            intro h
            rw [List.range_succ, List.flatMap_append, List.length_append, Nat.succ_mul]
            have := ih (by omega)
            have q := by_few (rows := rows) (m := m) (l := lvl gens.length (t' + 1))
            have := lvl216 (t' + 1) h
            simp only [List.flatMap_cons, List.flatMap_nil, List.append_nil]
            omega
        have bt := bl t (by omega)
        clear PB hdc sd PL u5
        refine ⟨_, rfl, lg, rfl, ⟨_, SqL.of G.at'⟩, for_list (K := K) (a := lg) (xs := ls.map V.ref) (fun j σ He => ∃ (v9 v10 v13 : Option V) (bs : List Addr), σ = [some (.ref pr), some (.ref pf), some (.ref lw), some (.int (most : Nat)), some (.ref ly), some (.ref B), some (.ref d), some (.int (0 + (t : Nat))), some (.ref lg), v9, v10, v11, v12, v13, none, none] ∧ But B Hd He ∧ Prw He B bs (((List.range t).flatMap fun k => (lvl gens.length (k + 1)).flatMap (byAt rows m)) ++ ((lvl gens.length (t + 1)).take j).flatMap (byAt rows m)))
          ⟨v9, v10, v13, bs, rfl, But.refl, by simpa using PB6⟩ (fun j σ He _ ⟨_, _, _, _, _, be, _⟩ => SqL.of (be _ _ ngB G.at')) (fun j x σ He hx ⟨v9, v10, v13, bs, eσ, be, PB⟩ => ?_) (fun σ He ⟨v9, v10, v13, bs, eσ, be, PB⟩ => ?_)⟩
        · subst eσ
          obtain ⟨a, ha, rfl⟩ := map_get hx
          obtain ⟨u, hu'⟩ := lt_get (show j < (lvl gens.length (t + 1)).length by have := get_lt ha; have := G.len; omega)
          obtain ⟨ul, uw⟩ := lvl_word (List.mem_of_getElem? hu')
          have Ge := G.but be PB6.at' ngB
          obtain ⟨ib, e1, e2⟩ := Ge.el j a u ha hu'
          have se : Same H He := Same.but s6 nB0 be
          have hde := be _ _ nBd hd6
          have hx0 := walk u uw
          obtain ⟨x1, x2⟩ := Mon.word_le hm lm f5 n0 u.length u (Nat.le_refl _) uw
          obtain ⟨wu, hwu⟩ := lt_get (show Mon.walk rows 0 u < (Mon.wordTab m).length by omega)
          have eW : Mon.W m (Mon.walk rows 0 u) = wu := Mon.getD_of hwu
          have hv : valV (dtab found) (kt (Mon.compW gens (Mon.idm n) u)) = some (nv (Mon.walk rows 0 u)) := by
            have := dtabF_some (k := 0) nd hx0
            rwa [Nat.zero_add] at this
          have kib : He ib = some (.tup ((kt (Mon.compW gens (Mon.idm n) u)).map kV)) := by rw [kt_map]; exact e2
          refine ⟨a, _, rfl, SqT.of e1, rfl, _, _, rfl, _, _, rfl, rfl, ?_⟩
          refine ⟨_, rfl, _, rfl, _, rfl, d, nv (Mon.walk rows 0 u), rfl, hv ▸ DGet.t hde kib, lw, _, _, wv wu, rfl, rfl, L2.Same.seq se hW, atI_nat (get_map hwu), ?_⟩
          have eS : ((List.range t).flatMap fun k => (lvl gens.length (k + 1)).flatMap (byAt rows m)) ++ ((lvl gens.length (t + 1)).take (j + 1)).flatMap (byAt rows m) = (((List.range t).flatMap fun k => (lvl gens.length (k + 1)).flatMap (byAt rows m)) ++ ((lvl gens.length (t + 1)).take j).flatMap (byAt rows m)) ++ byAt rows m u := by
            rw [take_snoc hu', List.flatMap_append, ← List.append_assoc]
            simp
          refine ⟨_, rfl, _, rfl, rfl, _, rfl, ?_⟩
          by_cases h1 : wu = u
          · refine ifF (by rw [h1, decide_eq_true rfl]; rfl) ?_
            refine ⟨_, _, _, bs, rfl, be, ?_⟩
            rw [eS, show byAt rows m u = [] by unfold byAt; rw [eW, if_neg (fun z => z.1 h1)], List.append_nil]
            exact PB
          · refine ifT (by rw [decide_eq_false (fun z => h1 (by injection z with z; exact ws_inj z))]; rfl) ?_
            refine ⟨_, rfl, u, rfl, by omega, fun l' H7 s7 nl' hl' => ⟨l', rfl, ⟨_, SqL.of hl'⟩, fun D nD => ?_⟩⟩
            refine lc_list (K := K) (a := l') (xs := (partsP u).map wv) (fun c Hf => But D H7 Hf ∧ Hf D = some (.lst ((((partsP u).take c).filter fun p => decide (p ∉ Mon.wordTab m)).map wv))) ⟨But.upd, upd_same⟩ (fun c Hf _ ⟨bf, _⟩ => SqL.of ((Same.but (L2.Same.refl _) nD bf) _ _ hl')) (fun c y Hf hy ⟨bf, hD⟩ => ?_) (fun Hf ⟨bf, hD⟩ => ?_)
            · obtain ⟨p, hp, rfl⟩ := map_get hy
              have sf := Same.but (L2.Same.refl _) nD bf
              refine ⟨rfl, ?_⟩
              refine ⟨_, rfl, _, rfl, lw, _, rfl, .inl (L2.Same.seq (se.trans (s7.trans sf)) hW), rfl, all_wv, ?_⟩
              rw [inV_wv]
              refine ⟨_, rfl, ?_⟩
              have eP : ((partsP u).take (c + 1)).filter (fun p => decide (p ∉ Mon.wordTab m)) = ((partsP u).take c).filter (fun p => decide (p ∉ Mon.wordTab m)) ++ if p ∈ Mon.wordTab m then [] else [p] := by
                rw [take_snoc hp, List.filter_append]
                congr 1
                by_cases h : p ∈ Mon.wordTab m
                · simp [h]
                · simp [h]
              rw [eP]
              by_cases h : p ∈ Mon.wordTab m
              · refine ifF (by simp [h]) ?_
                rw [if_pos h, List.append_nil]
                exact ⟨bf, hD⟩
              · refine ifT (by simp [h]) ?_
                rw [if_neg h]
                refine ⟨_, rfl, _, hD, ?_, bf.trans But.upd, by rw [upd_same, List.map_append]; rfl⟩
                rw [List.length_map]
                have q1 := List.length_filter_le (fun p => decide (p ∉ Mon.wordTab m)) ((partsP u).take c)
                have q2 := parts_few (u := u) (by omega)
                rw [List.length_take] at q1
                show _ < 16777216
                omega
            · rw [List.length_map, List.take_length] at hD
              have sf := Same.but (L2.Same.refl _) nD bf
              have s8 := s7.trans sf
              refine ⟨(by show 0 ≤ sizeLine; decide), fun E' nE => ?_⟩
              have u9 := same_upd (o := .lst []) nE
              have s9 := s8.trans u9
              have hE : L2.upd Hf E' (.lst []) E' = some (.lst []) := upd_same
              have hD9 := u9 _ _ hD
              generalize L2.upd Hf E' (.lst []) = H9 at s9 hE hD9 ⊢
              refine ⟨.list (((partsP u).filter fun p => decide (p ∉ Mon.wordTab m)).map dW), .list [], Dp.lst (SqL.of hD9) dpW, Dp.lst (SqL.of hE) .nil, words_sh (fun x hx c hc => by
                have := uw c (part_in ((List.mem_filter.mp hx).1) c hc)
                omega), (by decide), ?_⟩
              have PB9 := PB.same s9
              have be9 : But B Hd H9 := be.trans (But.of s9)
              cases hfl : (partsP u).filter fun p => decide (p ∉ Mon.wordTab m) with
              | cons p r =>
                refine ⟨_, rfl, ifF rfl ?_⟩
                refine ⟨_, _, _, bs, rfl, be9, ?_⟩
                rw [eS, show byAt rows m u = [] by unfold byAt; rw [hfl, if_neg (fun z => by cases z.2)], List.append_nil]
                exact PB9
              | nil =>
                refine ⟨_, rfl, ifT rfl ?_⟩
                have hR : byAt rows m u = [(u, wu)] := by
                  unfold byAt
                  rw [eW, if_pos ⟨h1, hfl⟩]
                refine ⟨_, rfl, .inl ⟨rfl, _, SqL.of PB9.at'⟩, _, rfl, _, rfl, (by show 2 ≤ sizeLine; decide), fun t' nt' => ?_⟩
                have u10 := same_upd (o := .tup [wv u, wv wu]) nt'
                refine ⟨B, _, _, rfl, rfl, u10 _ _ PB9.at', ?_, ?_⟩
                · rw [List.length_map, PB9.len, List.length_append]
                  have q := by_few (rows := rows) (m := m) (l := (lvl gens.length (t + 1)).take j)
                  rw [List.length_take] at q
                  have q2 : t * 216 ≤ 8 * 216 := Nat.mul_le_mul_right _ (by omega)
                  show _ < 16777216
                  omega
                · refine ⟨_, _, _, bs ++ [t'], rfl, be9.trans ((But.of u10).trans But.upd), ?_⟩
                  rw [eS, hR]
                  exact (PB9.same u10).add (q := (u, wu)) upd_same
        · subst eσ
          have e1 : (ls.map V.ref).length = (lvl gens.length (t + 1)).length := by rw [List.length_map, G.len]
          rw [e1, List.take_length] at PB
          have e2 : ((List.range (t + 1)).flatMap fun k => (lvl gens.length (k + 1)).flatMap (byAt rows m)) = ((List.range t).flatMap fun k => (lvl gens.length (k + 1)).flatMap (byAt rows m)) ++ (lvl gens.length (t + 1)).flatMap (byAt rows m) := by
            rw [List.range_succ, List.flatMap_append]
            simp
          exact ⟨_, rfl, _, _, _, _, _, _, _, lg, ls, bs, rfl, Same.but s6 nB0 be, be _ _ nBd hd6, G.but be PB6.at' ngB, by rw [e2]; exact PB, ngB⟩
    · subst eσ
      exact ⟨_, rfl, k B bs Hc sc nB0 PB⟩
end
end K18

set_option Elab.async false
set_option linter.all false
set_option maxRecDepth 100000
set_option maxHeartbeats 8000000
namespace K18
open PySem PySem.Spec PyProof.Rows L2 Lf LamX
theorem pw_ext {α : Type} {r : α → α → Prop} (ir : ∀ a, ¬ r a a) (tr : ∀ a b c, r a b → r b c → r a c) : ∀ {l k : List α}, l.Pairwise r → k.Pairwise r → (∀ x, x ∈ l ↔ x ∈ k) → l = k
  | [], [], _, _, _ => rfl
  | [], b :: k, _, _, h => by have := (h b).mpr List.mem_cons_self; cases this
  | a :: l, [], _, _, h => by have := (h a).mp List.mem_cons_self; cases this
  | a :: l, b :: k, hl, hk, h => by
    obtain ⟨l1, l2⟩ := List.pairwise_cons.mp hl
    obtain ⟨k1, k2⟩ := List.pairwise_cons.mp hk
    have e : a = b := by
      rcases List.mem_cons.mp ((h a).mp List.mem_cons_self) with z | z
      · exact z
      · rcases List.mem_cons.mp ((h b).mpr List.mem_cons_self) with y | y
        · exact y.symm
        · exact absurd (tr _ _ _ (k1 a z) (l1 b y)) (ir b)
    subst e
    congr 1
    refine pw_ext ir tr l2 k2 fun x => ⟨fun hx => ?_, fun hx => ?_⟩
    · rcases List.mem_cons.mp ((h x).mp (List.mem_cons_of_mem _ hx)) with z | z
      · subst z
        exact absurd (l1 x hx) (ir x)
      · exact z
    · rcases List.mem_cons.mp ((h x).mpr (List.mem_cons_of_mem _ hx)) with z | z
      · subst z
        exact absurd (k1 x hx) (ir x)
      · exact z
theorem lvl_srt {wd : Nat} : ∀ k, (lvl wd k).Pairwise Mon.llt
  | 0 => by simp [lvl]
  | k + 1 => by
    refine Mon.pw_flat (fun u hu => ?_) ((lvl_srt k).imp fun {u v} h x hx y hy => ?_)
    · rw [List.pairwise_map]
      exact List.pairwise_lt_range.imp fun h => Mon.llt_snoc h
    · obtain ⟨c, _, rfl⟩ := List.mem_map.mp hx
      obtain ⟨d, _, rfl⟩ := List.mem_map.mp hy
      exact Mon.llt_app h
theorem lvl_all {wd : Nat} : ∀ (k : Nat) (w : List Nat), w.length = k → (∀ c ∈ w, c < wd) → w ∈ lvl wd k
  | 0, w, h, _ => by
    rw [List.length_eq_zero_iff.mp h]
    exact List.mem_cons_self
  | k + 1, w, h, hw => by
    obtain ⟨c, u, e, hc, hu⟩ := Mon.wy_back.split w (fun z => by rw [z] at h; simp at h) hw
    subst e
    refine List.mem_flatMap.mpr ⟨u, lvl_all k u (by simpa using h) hu, List.mem_map.mpr ⟨c, List.mem_range.mpr hc, rfl⟩⟩
theorem mem_parts {u p : List Nat} : p ∈ partsP u ↔ ∃ b k, b < u.length ∧ k < u.length + 1 - b ∧ k < u.length ∧ p = (u.drop b).take k := by
  unfold partsP partsAt
  simp only [List.mem_flatMap, List.mem_map, List.mem_filter, List.mem_range, decide_eq_true_eq]
  exact ⟨fun ⟨b, hb, k, ⟨h1, h2⟩, e⟩ => ⟨b, k, hb, h1, h2, e.symm⟩, fun ⟨b, k, hb, h1, h2, e⟩ => ⟨b, hb, k, ⟨h1, h2⟩, e.symm⟩⟩
section
variable {rows : List (List Nat)} {m : List (Nat × Nat)} {wd : Nat}
theorem byW_srt {most : Nat} : (byW rows m wd most).Pairwise fun p q => Mon.slt p.1 q.1 := by
  have one : ∀ u, ∀ x ∈ byAt rows m u, x.1 = u := fun u x hx => by
    unfold byAt at hx
    split at hx
    · rw [List.mem_singleton.mp hx]
    · cases hx
  refine Mon.pw_flat (fun k hk => Mon.pw_flat (fun u hu => ?_) (List.Pairwise.imp_of_mem (fun {u v} hu hv huv x hx y hy => ?_) (lvl_srt (k + 1)))) ?_
  · unfold byAt
    split <;> simp
  · rw [one _ _ hx, one _ _ hy]
    exact .inr ⟨by rw [(lvl_word hu).1, (lvl_word hv).1], huv⟩
  · refine List.pairwise_lt_range.imp fun {i j} hij x hx y hy => ?_
    obtain ⟨u, hu, hx⟩ := List.mem_flatMap.mp hx
    obtain ⟨v, hv, hy⟩ := List.mem_flatMap.mp hy
    rw [one _ _ hx, one _ _ hy]
    exact .inl (by rw [(lvl_word hu).1, (lvl_word hv).1]; omega)
theorem due_by (FO : Form rows wd) (hm : Mon.madeTab 0 rows [] = some m) (lm : m.length + 1 = rows.length) (cg : Cg rows wd) {most : Nat} : (dueP rows m wd).filter (fun p => decide (p.1.length ≤ most)) = byW rows m wd most := by
  have f5 := FO.2.2.2.2
  have n0 := FO.1
  refine pw_ext (r := fun p q : List Nat × List Nat => Mon.slt p.1 q.1) (fun a => Mon.slt_irr) (fun a b c => Mon.slt_trans) ((due_srt hm lm).sublist List.filter_sublist) byW_srt fun q => ⟨fun hq => ?_, fun hq => ?_⟩
  · obtain ⟨hq, hl⟩ := List.mem_filter.mp hq
    have hl := of_decide_eq_true hl
    obtain ⟨i, hi, hq⟩ := List.mem_flatMap.mp hq
    obtain ⟨c, hc, hq⟩ := List.mem_flatMap.mp hq
    have hi := List.mem_range.mp hi
    have hc := List.mem_range.mp hc
    unfold dueAt at hq
    split at hq
    · rename_i h
      obtain ⟨h1, h2⟩ := h
      rw [List.mem_singleton.mp hq] at hl ⊢
      have ok : ∀ d ∈ Mon.W m i ++ [c], d < wd := fun d hd => by
        rcases List.mem_append.mp hd with hd | hd
        · exact Mon.word_ok hm f5 i d hd
        · rw [List.mem_singleton.mp hd]; exact hc
      have ew : Mon.walk rows 0 (Mon.W m i ++ [c]) = Mon.stp rows i c := by
        rw [Mon.walk_app]
        unfold Mon.W
        rw [Mon.walk_word hm i i (Nat.le_refl _) (by omega)]
        rfl
      have hl' : (Mon.W m i).length + 1 ≤ most := by simpa using hl
      refine List.mem_flatMap.mpr ⟨(Mon.W m i).length, List.mem_range.mpr (by omega), List.mem_flatMap.mpr ⟨Mon.W m i ++ [c], lvl_all _ _ (by simp) ok, ?_⟩⟩
      have hfl : ((partsP (Mon.W m i ++ [c])).filter fun p => decide (p ∉ Mon.wordTab m)) = [] := by
        rw [List.filter_eq_nil_iff]
        intro p hp
        obtain ⟨b, k, hb, hk, hk2, rfl⟩ := mem_parts.mp hp
        have wi : Mon.W m i ∈ Mon.wordTab m := Mon.mem_W (by omega)
        have : ((Mon.W m i ++ [c]).drop b).take k ∈ Mon.wordTab m := by
          cases b with
          | zero =>
            rw [List.drop_zero, List.take_append_of_le_length (by rw [List.length_append, List.length_singleton] at hk2; omega)]
            exact Mon.word_take' hm k _ wi
          | succ b =>
            have e : (Mon.W m i ++ [c]).drop (b + 1) = (Mon.W m i ++ [c]).tail.drop b := by
              cases Mon.W m i ++ [c] <;> simp
            rw [e]
            exact Mon.word_take' hm k _ (Mon.word_drop hm lm f5 cg b _ h2)
        simpa using this
      unfold byAt
      rw [if_pos ⟨fun z => h1 ((Mon.mem_word hm lm f5 ok).mpr z), hfl⟩, ew]
      exact List.mem_singleton.mpr rfl
    · cases hq
  · obtain ⟨k, hk, hq⟩ := List.mem_flatMap.mp hq
    obtain ⟨u, hu, hq⟩ := List.mem_flatMap.mp hq
    have hk := List.mem_range.mp hk
    obtain ⟨ul, uw⟩ := lvl_word hu
    unfold byAt at hq
    split at hq
    · rename_i h
      obtain ⟨h1, h2⟩ := h
      rw [List.mem_singleton.mp hq]
      have all : ∀ p ∈ partsP u, p ∈ Mon.wordTab m := fun p hp => by
        have := List.filter_eq_nil_iff.mp h2 p hp
        simpa using this
      obtain ⟨c, v, e, hc, hv⟩ := Mon.wy_back.split u (fun z => by rw [z] at ul; simp at ul) uw
      have vin : v ∈ Mon.wordTab m := all v (mem_parts.mpr ⟨0, v.length, by omega, by rw [e, List.length_append, List.length_singleton]; omega, by rw [e]; simp, by rw [e]; simp⟩)
      have tin : u.tail ∈ Mon.wordTab m := by
        by_cases l1 : u.length = 1
        · have e0 : u.tail = [] := by
            cases u with
            | nil => rfl
            | cons a r => simp at l1; simp [l1]
          rw [e0]
          exact all [] (mem_parts.mpr ⟨0, 0, by omega, by omega, by omega, by simp⟩)
        · refine all u.tail (mem_parts.mpr ⟨1, u.length - 1, by omega, by omega, by omega, ?_⟩)
          rw [List.drop_one, List.take_of_length_le (by simp)]
      obtain ⟨i, hi, rfl⟩ := Mon.W_mem vin
      have ew : Mon.walk rows 0 u = Mon.stp rows i c := by
        rw [e, Mon.walk_app]
        unfold Mon.W
        rw [Mon.walk_word hm i i (Nat.le_refl _) hi]
        rfl
      refine List.mem_filter.mpr ⟨List.mem_flatMap.mpr ⟨i, List.mem_range.mpr (by omega), List.mem_flatMap.mpr ⟨c, List.mem_range.mpr hc, ?_⟩⟩, decide_eq_true (by show u.length ≤ most; omega)⟩
      unfold dueAt
      rw [if_pos ⟨fun z => h1 ((Mon.mem_word hm lm f5 uw).mp (by rw [e]; exact z)), by
        have : u.tail = (Mon.W m i ++ [c]).tail := by rw [e]
        rw [← this]
        exact tin⟩, ew, e]
      exact List.mem_singleton.mpr rfl
    · cases hq
end
end K18

set_option Elab.async false
set_option linter.all false
set_option maxRecDepth 100000
set_option maxHeartbeats 8000000
namespace K18
open PySem PySem.Spec PyProof.Rows L2 Lf
def spRules (K : PySem.W.Frag) : Sp := fun vs H Q _ => ∃ p rows m wd, vs = [.ref p] ∧ Mo K H p rows m ∧ Form rows wd ∧ Mon.madeTab 0 rows [] = some m ∧ m.length + 1 = rows.length ∧ ∀ l prs H', Same H H' → H l = none → Prw H' l prs (rulesP rows m wd) → Q (.ref l) H'
abbrev NRU : List Str := ["self", "words", "rests", "found", "number", "row", "letter", "reached", "rest"]
section
variable {P : Program} {w : World} {K : PySem.W.Frag} {mg : Str → Option Value} {base : Heap}
theorem scRules : FnScope NRU ["self"] (defScope s_Monoid_rules) := ⟨rfl, rfl, rfl, by decide +kernel, rfl, by decide +kernel, by decide +kernel⟩
theorem ok_rules {f : Addr} {fd : FuncData} {q : Str} (F : FunD K "rules" q (defArgs s_Monoid_rules) (defBody s_Monoid_rules) (defScope s_Monoid_rules) [] [] f fd) (T : Txt P w K mg base)
    (DR : Def P w K mg base CX0 1 "_rests" ["right", "made"] (spRests K)) (DW : DefM P w K mg base CX0 1 "words" ["self"] (spWords K)) (DI : DefM P w K mg base CX0 1 "_is_word_of" ["self", "number", "letter"] (spIsW K)) :
    FnOk P w K mg base CX0 2 f fd ["self"] (spRules K) := by
  have cl : L2.Cls K (He.ga K "Monoid") := He.cls_ok (T.d.fact 41 (f := .cls "Monoid") rfl)
  have n1 : NoAttr K (He.ga K "Monoid") "right" := He.noat_ok (T.d.fact 51 (f := .noat "Monoid" "right") rfl)
  have n2 : NoAttr K (He.ga K "Monoid") "_made" := He.noat_ok (T.d.fact 52 (f := .noat "Monoid" "_made") rfl)
  have zE : mg "enumerate" = none := T.fr 32 "enumerate" rfl
  obtain ⟨tL, gL⟩ := T.st 26 "LETTERS" "abcdef" rfl
  obtain ⟨fw, fdw, mw, Fw, bw⟩ := DW.ex
  obtain ⟨fi, fdi, mi, Fi, bi⟩ := DI.ex
  refine F.ok scRules (fun vs H Q E h => ?_) (fun cdv A outer s H vs Q E hr h => ?_)
  · obtain ⟨p, rows, m, wd, rfl, _⟩ := h
    rfl
  · obtain ⟨p, rows, m, wd, rfl, M, FO, hm, lm, k⟩ := h
    refine ⟨_, PSs.nox (pss_cons (ps_set (i := 1) scRules.nd rfl (.inl rfl) (pe_meth0 (pv 0) cl mw Fw hr bw .nil pass0))
      (pss_cons (ps_set (i := 2) scRules.nd rfl (.inl rfl) (pe_def DR hr pass0 rfl (pa_cons (pe_fld (pv 0) rfl) (pa_cons (pe_fld (pv 0) rfl) pa_nil))))
      (pss_cons (ps_set (i := 3) scRules.nd rfl (.inl rfl) (pe_lst pa_nil))
      (pss_cons (ps_for PassesOwn.never rfl (pi_enumA rfl zE (pe_fld (pv 0) rfl)) (pg_tup rfl (pgs_cons (pg_name (i := 4) scRules.nd rfl (.inl rfl)) (pgs_cons (pg_name (i := 5) scRules.nd rfl (.inl rfl)) pgs_nil)))
        (pss_one (ps_for PassesOwn.never rfl (pi_enumA rfl zE (pv 5)) (pg_tup rfl (pgs_cons (pg_name (i := 6) scRules.nd rfl (.inl rfl)) (pgs_cons (pg_name (i := 7) scRules.nd rfl (.inl rfl)) pgs_nil)))
          (pss_cons (ps_set (i := 8) scRules.nd rfl (.inl rfl) (pe_ix ix_list (pv 2) (pv 4) (fun _ _ => rfl)))
          (pss_cons (ps_if (pt_val (pe_meth (pv 0) cl mi Fi hr bi .nil pass0 (pa_cons (pv 4) (pa_cons (pv 6) pa_nil)))) (pss_one ps_continue) pss_nil)
          (pss_one (ps_if (PW.pt (pw_or (pt_cmpR op_eq (pv 4) pe_int (nomark _)) (pw_or1 (pt_val (pe_meth (pv 0) cl mi Fi hr bi .nil pass0 (pa_cons (pv 8) (pa_cons (pv 6) pa_nil)))))))
            (pss_one (ps_expr (pe_bm PySem.F.plainAttrs_list PySem.F.slot_list_append PySem.F.type_list_append mt_append (pv 3) (pa_cons (pe_tup (pa_cons (pe_op op_add_str (pe_ix ix_list (pv 1) (pv 4) (fun _ _ => rfl)) (pe_ix ix_str (pe_gstr rfl gL) (pv 6) (fun _ _ => rfl))) (pa_cons (pe_ix ix_list (pv 1) (pv 7) (fun _ _ => rfl)) pa_nil))) pa_nil)))) pss_nil)))))))
      (pss_one (ps_ret (pv 3))))))), ?_⟩
    obtain ⟨dx, tr, u, v, hp, R, MM, _⟩ := id M.ex
    obtain ⟨as, sr, la, srow⟩ := R.ex
    have n2' := FO.2.1
    have w6 := FO.2.2.2.1
    have m2 : m.length ≤ 2000 := by omega
    have wl : (Mon.wordTab m).length = rows.length := by rw [Mon.word_len, lm]
    refine ⟨_, rfl, p, dx, _, rfl, hp, rfl, p, rows, m, wd, rfl, M, FO, hm, m2, fun lw H1 s1 nlw hlw => ?_⟩
    have hp1 := s1 _ _ hp
    refine ⟨_, rfl, p, _, dx, _, _, rfl, hp1, cl, n1, rfl, _, rfl, p, _, dx, _, _, rfl, hp1, cl, n2, rfl, tr, u, rows, m, wd, rfl, R.same s1, MM.same s1, FO, hm, lm, fun lr H2 s2 nlr hlr => ?_⟩
    have s12 := s1.trans s2
    have hlw2 := s2 _ _ hlw
    have nlr0 := nil_of s1 nlr
    refine ⟨(by show 0 ≤ sizeLine; decide), fun B nB => ?_⟩
    have u3 := same_upd (o := .lst []) nB
    have nB0 := nil_of s12 nB
    have s3 := s12.trans u3
    have hlw3 := u3 _ _ hlw2
    have hlr3 := u3 _ _ hlr
    have P3 : Prw (L2.upd H2 B (.lst [])) B [] (((List.range 0).flatMap fun i => (List.range wd).flatMap (ruleAt rows m i)) ++ (List.range 0).flatMap (ruleAt rows m 0)) := Prw.nil upd_same
    have nBw : lw ≠ B := fun z => by rw [← z, hlw2] at nB; cases nB
    have nBr : lr ≠ B := fun z => by rw [← z, hlr] at nB; cases nB
    generalize L2.upd H2 B (.lst []) = H3 at s3 hlw3 hlr3 P3 ⊢
    clear u3 nB s12 hlw2 hlr hlw s1 s2 nlw nlr hp1
    have fewR : ∀ i c, (((List.range i).flatMap fun i => (List.range wd).flatMap (ruleAt rows m i)) ++ (List.range c).flatMap (ruleAt rows m i)).length ≤ i * wd + c := by
      have one : ∀ i c, (ruleAt rows m i c).length ≤ 1 := fun i c => by
        unfold ruleAt
        split
        · simp
        · split <;> simp
      have row : ∀ i c, ((List.range c).flatMap (ruleAt rows m i)).length ≤ c := fun i c => by
        induction c with
        | zero => simp
        | succ c ih =>
          rw [List.range_succ, List.flatMap_append, List.length_append]
          have := one i c
          simp only [List.flatMap_cons, List.flatMap_nil, List.append_nil]
          omega
      intro i c
      have all : ∀ i, ((List.range i).flatMap fun i => (List.range wd).flatMap (ruleAt rows m i)).length ≤ i * wd := fun i => by
        induction i with
        | zero => simp
        | succ i ih =>
          rw [List.range_succ, List.flatMap_append, List.length_append, Nat.succ_mul]
          have := row i wd
          simp only [List.flatMap_cons, List.flatMap_nil, List.append_nil]
          omega
      have := all i
      have := row i c
      rw [List.length_append]
      omega
    have hpH := fun {Hc : Hp} (sc : Same H Hc) => sc _ _ hp
    refine ⟨_, rfl, p, _, dx, _, _, rfl, hpH s3, cl, n1, rfl, ?_⟩
    refine ⟨tr, as.map V.ref, rfl, .inr ⟨Lf.SqT.same s3 sr, ?_⟩⟩
    have ln : (as.map V.ref).length = rows.length := by rw [List.length_map, la]
    have wk : Walk (Itet K tr) (as.map V.ref).length (fun H2 => Same H H2) (fun i H v H' => ∃ T x, v = .ref T ∧ H T = none ∧ H' = L2.upd H T (.tup [.int (i : Nat), x]) ∧ (as.map V.ref)[i]? = some x) := (walk_enumT (xs := as.map V.ref)).mono (fun H s => Lf.SqT.same s sr) (fun i H x H' _ _ y => y)
    refine for_it wk (fun i σ Hc => ∃ (v4 v5 v6 v7 v8 : Option V) (prs : List Addr), σ = [some (.ref p), some (.ref lw), some (.ref lr), some (.ref B), v4, v5, v6, v7, v8] ∧ Same H Hc ∧ Hc lw = some (.lst ((Mon.wordTab m).map wv)) ∧ Hc lr = some (.lst ((restTab rows m).map nv)) ∧ Prw Hc B prs (((List.range i).flatMap fun i => (List.range wd).flatMap (ruleAt rows m i)) ++ (List.range 0).flatMap (ruleAt rows m i)))
      ⟨none, none, none, none, none, [], rfl, s3, hlw3, hlr3, P3⟩ (fun i σ Hc _ ⟨_, _, _, _, _, _, _, s, _⟩ => s) (fun i x σ Hc Hc' hi ⟨v4, v5, v6, v7, v8, prs, eσ, sc, hwc, hrc, PR⟩ ⟨T', y, ey, nT, eH, hy⟩ => ?_) (fun σ Hc ⟨v4, v5, v6, v7, v8, prs, eσ, sc, hwc, hrc, PR⟩ => ?_)
    · subst eσ ey eH
      obtain ⟨ai, hai, rfl⟩ := map_get hy
      have il : i < rows.length := by rw [← ln]; exact hi
      obtain ⟨ri, hri⟩ := lt_get il
      obtain ⟨l1, l2⟩ := FO.2.2.2.2 ri (List.mem_of_getElem? hri)
      have sai := srow i ai ri hai hri
      refine ⟨T', _, rfl, SqT.of upd_same, rfl, _, _, rfl, _, _, rfl, rfl, ?_⟩
      have u5 := same_upd (o := .tup [.int (i : Nat), .ref ai]) nT
      have s5 := sc.trans u5
      have hw5 := u5 _ _ hwc
      have hr5 := u5 _ _ hrc
      have PR5 := PR.same u5
      generalize L2.upd Hc T' (.tup [.int (i : Nat), .ref ai]) = H5 at s5 hw5 hr5 PR5 ⊢
      refine ⟨_, rfl, ai, ri.map nv, rfl, .inr ⟨Lf.SqT.same s5 sai, ?_⟩⟩
      have wk2 : Walk (Itet K ai) (ri.map nv).length (fun H2 => Same H H2) (fun i H v H' => ∃ T x, v = .ref T ∧ H T = none ∧ H' = L2.upd H T (.tup [.int (i : Nat), x]) ∧ (ri.map nv)[i]? = some x) := (walk_enumT (xs := ri.map nv)).mono (fun H s => Lf.SqT.same s sai) (fun i H x H' _ _ y => y)
      refine for_it wk2 (fun c σ Hd => ∃ (v6 v7 v8 : Option V) (prs : List Addr), σ = [some (.ref p), some (.ref lw), some (.ref lr), some (.ref B), some (nv i), some (.ref ai), v6, v7, v8] ∧ Same H Hd ∧ Hd lw = some (.lst ((Mon.wordTab m).map wv)) ∧ Hd lr = some (.lst ((restTab rows m).map nv)) ∧ Prw Hd B prs (((List.range i).flatMap fun i => (List.range wd).flatMap (ruleAt rows m i)) ++ (List.range c).flatMap (ruleAt rows m i)))
        ⟨v6, v7, v8, prs, rfl, s5, hw5, hr5, PR5⟩ (fun c σ Hd _ ⟨_, _, _, _, _, s, _⟩ => s) (fun c x σ Hd Hd' hc ⟨v6, v7, v8, prs, eσ, sd, hwd, hrd, PRd⟩ ⟨T2, y, ey, nT2, eH, hy⟩ => ?_) (fun σ Hd ⟨v6, v7, v8, prs, eσ, sd, hwd, hrd, PRd⟩ => ?_)
      · subst eσ ey eH
        obtain ⟨t, ht, rfl⟩ := map_get hy
        have cl' := get_lt ht
        refine ⟨T2, _, rfl, SqT.of upd_same, rfl, _, _, rfl, _, _, rfl, rfl, ?_⟩
        have u7 := same_upd (o := .tup [.int (c : Nat), nv t]) nT2
        have s7 := sd.trans u7
        have hw7 := u7 _ _ hwd
        have hr7 := u7 _ _ hrd
        have PR7 := PRd.same u7
        generalize L2.upd Hd T2 (.tup [.int (c : Nat), nv t]) = H7 at s7 hw7 hr7 PR7 ⊢
        have cw : c < wd := by omega
        obtain ⟨y, hy'⟩ := lt_get (show i < (restTab rows m).length by rw [rest_len, lm]; exact il)
        have yl : y < rows.length := by
          have := rest_lt FO hm m.length (Nat.le_refl _)
          rw [List.take_length] at this
          exact this y (List.mem_of_getElem? hy')
        have eS : ∀ L : List (List Nat × List Nat), L ++ (List.range (c + 1)).flatMap (ruleAt rows m i) = (L ++ (List.range c).flatMap (ruleAt rows m i)) ++ ruleAt rows m i c := fun L => by
          rw [List.range_succ, List.flatMap_append, ← List.append_assoc]
          simp
        have et : Mon.stp rows i c = t := by
          unfold Mon.stp
          rw [Mon.getD_of hri, Mon.getD_of ht]
        have M7 := M.same s7
        refine ⟨_, rfl, _, rfl, lr, _, _, nv y, rfl, rfl, SqL.of hr7, atI_nat (get_map hy'), ?_⟩
        refine ⟨_, rfl, p, dx, _, rfl, hpH s7, rfl, _, rfl, _, rfl, p, rows, m, wd, i, c, rfl, M7, FO, lm, il, cw, fun H8 s8 => ⟨_, rfl, ?_⟩⟩
        have s78 := s7.trans s8
        cases hw : isw rows m i c with
        | true =>
          refine ifT rfl ?_
          refine ⟨_, _, _, prs, rfl, s78, s8 _ _ hw7, s8 _ _ hr7, ?_⟩
          rw [eS, show ruleAt rows m i c = [] by unfold ruleAt; rw [if_pos hw], List.append_nil]
          exact PR7.same s8
        | false =>
          refine ifF rfl ?_
          have ey : (restTab rows m).getD i 0 = y := Mon.getD_of hy'
          obtain ⟨wi, hwi⟩ := lt_get (show i < (Mon.wordTab m).length by omega)
          obtain ⟨wt, hwt⟩ := lt_get (show t < (Mon.wordTab m).length by have := l2 t (List.mem_of_getElem? ht); omega)
          have lwi := word_short (List.mem_of_getElem? hwi)
          have hpair : ((Mon.W m i) ++ [c], Mon.W m (Mon.stp rows i c)) = (wi ++ [c], wt) := by
            unfold Mon.W
            rw [et, Mon.getD_of hwi, Mon.getD_of hwt]
          by_cases h0 : i = 0
          case' pos =>
            refine ⟨_, rfl, rfl, _, rfl, ?_⟩
            refine ifT (by rw [h0]; rfl) ?_
            have s9 := s8
            have hR : ruleAt rows m i c = [(wi ++ [c], wt)] := by
              unfold ruleAt
              rw [if_neg (by rw [hw]; exact Bool.false_ne_true), if_pos (.inl h0), hpair]
          case' neg =>
            refine ⟨_, rfl, rfl, _, rfl, ?_⟩
            refine ifF (decide_eq_false (fun z => h0 (by injection z with z; omega))) ?_
            refine ⟨_, rfl, p, dx, _, rfl, hpH s78, rfl, _, rfl, _, rfl, p, rows, m, wd, y, c, rfl, M.same s78, FO, lm, yl, cw, fun H9 s9' => ⟨_, rfl, ?_⟩⟩
            have s9 := s8.trans s9'
            cases hy1 : isw rows m y c
            case' false =>
              refine ifF rfl ?_
              refine ⟨_, _, _, prs, rfl, s7.trans s9, s9 _ _ hw7, s9 _ _ hr7, ?_⟩
              rw [eS, show ruleAt rows m i c = [] by
                unfold ruleAt
                rw [ey, hy1, if_neg (by rw [hw]; exact Bool.false_ne_true), if_neg (fun z => z.elim h0 Bool.false_ne_true)], List.append_nil]
              exact PR7.same s9
            refine ifT rfl ?_
            have hR : ruleAt rows m i c = [(wi ++ [c], wt)] := by
              unfold ruleAt
              rw [ey, hy1, if_neg (by rw [hw]; exact Bool.false_ne_true), if_pos (.inr rfl), hpair]
          all_goals
            have PR9 := PR7.same s9
            have hw9 := s9 _ _ hw7
            refine ⟨_, rfl, .inl ⟨rfl, _, SqL.of PR9.at'⟩, _, rfl, _, rfl, lw, _, _, wv wi, rfl, rfl, SqL.of hw9, atI_nat (get_map hwi), _, rfl, ("abcdef" : Str), _, 97 + c, rfl, rfl, by decide, letter_of (by omega), ws wi, ⟨#[97 + c]⟩, rfl, rfl, (by rw [ws_len]; show wi.length + 1 ≤ 16777216; omega), _, rfl, _, rfl, lw, _, _, wv wt, rfl, rfl, SqL.of hw9, atI_nat (get_map hwt), (by show 2 ≤ sizeLine; decide), fun t' nt' => ?_⟩
            have u9 := same_upd (o := .tup [V.str (ws wi ++ ⟨#[97 + c]⟩), wv wt]) nt'
            refine ⟨B, _, _, rfl, rfl, u9 _ _ PR9.at', ?_, ?_⟩
            · rw [List.length_map, PR9.len]
              have := fewR i c
              have h2 : i * wd ≤ 2000 * 6 := Nat.mul_le_mul (by omega) w6
              show _ < 16777216
              omega
            · refine ⟨_, _, _, prs ++ [t'], rfl, fun b o e => ?_, ?_, ?_, ?_⟩
              · rw [upd_ne (ne_of_none e nB0)]
                exact u9 _ _ (s9 _ _ (s7 b o e))
              · rw [upd_ne nBw]
                exact u9 _ _ hw9
              · rw [upd_ne nBr]
                exact u9 _ _ (s9 _ _ hr7)
              · rw [eS, hR]
                exact (PR9.same u9).add (q := (wi ++ [c], wt)) (by rw [upd_same, ws_app])
      · subst eσ
        have e1 : (List.range (i + 1)).flatMap (fun i => (List.range wd).flatMap (ruleAt rows m i)) ++ (List.range 0).flatMap (ruleAt rows m (i + 1)) = (List.range i).flatMap (fun i => (List.range wd).flatMap (ruleAt rows m i)) ++ (List.range (ri.map nv).length).flatMap (ruleAt rows m i) := by
          rw [List.range_succ, List.flatMap_append, List.length_map, l1]
          simp
        rw [← e1] at PRd
        exact ⟨_, _, _, _, _, prs, rfl, sd, hwd, hrd, PRd⟩
    · subst eσ
      rw [ln] at PR
      refine ⟨_, rfl, k B prs Hc sc nB0 ?_⟩
      unfold rulesP
      simpa using PR
end
end K18

set_option Elab.async false
set_option linter.all false
set_option maxRecDepth 100000
set_option maxHeartbeats 8000000
namespace K18
open PySem PySem.Spec PyProof.Rows L2 Lf
/-- maps at their places -/
def El (H : Hp) (as : List Addr) (gs : List (List Nat)) : Prop := as.length = gs.length ∧ ∀ (i : Nat) a r, as[i]? = some a → gs[i]? = some r → H a = some (.tup (r.map nv))
theorem El.same {H H' : Hp} {as : List Addr} {gs : List (List Nat)} (h : El H as gs) (e : Same H H') : El H' as gs := ⟨h.1, fun i a r h1 h2 => e _ _ (h.2 i a r h1 h2)⟩
theorem El.app {H : Hp} {as bs : List Addr} {gs hs : List (List Nat)} (h : El H as gs) (k : El H bs hs) : El H (as ++ bs) (gs ++ hs) := by
  refine ⟨by rw [List.length_append, List.length_append, h.1, k.1], fun i a r h1 h2 => ?_⟩
  by_cases hi : i < as.length
  · rw [List.getElem?_append_left hi] at h1
    rw [List.getElem?_append_left (by rw [← h.1]; exact hi)] at h2
    exact h.2 i a r h1 h2
  · rw [List.getElem?_append_right (by omega)] at h1
    rw [List.getElem?_append_right (by rw [← h.1]; omega), ← h.1] at h2
    exact k.2 _ a r h1 h2
theorem El.one {H : Hp} {a : Addr} {g : List Nat} (h : H a = some (.tup (g.map nv))) : El H [a] [g] := ⟨rfl, fun i b r h1 h2 => by
  cases i with
  | zero => cases h1; cases h2; exact h
  | succ i => simp at h1⟩
theorem El.take {H : Hp} {as : List Addr} {gs : List (List Nat)} (h : El H as gs) (k : Nat) : El H (as.take k) (gs.take k) := ⟨by rw [List.length_take, List.length_take, h.1], fun i a r h1 h2 => by
  rw [List.getElem?_take] at h1 h2
  by_cases hi : i < k
  · rw [if_pos hi] at h1 h2
    exact h.2 i a r h1 h2
  · rw [if_neg hi] at h1
    cases h1⟩
theorem El.drop {H : Hp} {as : List Addr} {gs : List (List Nat)} (h : El H as gs) (k : Nat) : El H (as.drop k) (gs.drop k) := ⟨by rw [List.length_drop, List.length_drop, h.1], fun i a r h1 h2 => by
  rw [List.getElem?_drop] at h1 h2
  exact h.2 _ a r h1 h2⟩
theorem tSeq_k {t u : TS} {D : Ends} {σ : L2.St} {H : Hp} (h : t { D with nx := u D } σ H) : tSeq t u D σ H := h
theorem tIfS_k {t : TT} {A B : TS} {D : Ends} {σ : L2.St} {H : Hp} (R : L2.St → Hp → Prop) (h : (∀ σ' H', R σ' H' → D.nx σ' H') → tIfS t A B D σ H) (hR : ∀ σ' H', R σ' H' → D.nx σ' H') : tIfS t A B D σ H := h hR
theorem cutTo {xs : List V} {k : Nat} (h : k ≤ xs.length) : cutV xs none (some (k : Nat)) = xs.take k := by
  have e : HT.sIx xs.length xs.length (some ((k : Nat) : Int)) = k := by rw [HT.sIx_nat]; omega
  unfold cutV
  rw [e, HT.sIx_none]
  simp
theorem cutFrom {xs : List V} {k : Nat} (h : k ≤ xs.length) : cutV xs (some (k : Nat)) none = xs.drop k := by
  have e : HT.sIx xs.length 0 (some ((k : Nat) : Int)) = k := by rw [HT.sIx_nat]; omega
  unfold cutV
  rw [e, HT.sIx_none, List.take_of_length_le (by simp)]
def spMixed : Sp := fun vs H Q _ => ∃ l p n gens size, vs = [.ref l, .ref p] ∧ Src H l n ∧ n + 2 ≤ 1000000 ∧ Maps H p gens ∧ gens ≠ [] ∧ gens.length ≤ 6 ∧ 1 ≤ size ∧ size ≤ 4 ∧ (∀ g ∈ gens, Mon.Valid size g) ∧
  ∀ p' gens' H', But l H H' → Maps H' p' gens' → gens' ≠ [] → gens'.length ≤ 6 → (∀ g ∈ gens', Mon.Valid size g) → Src H' l (n + 2) → Q (.ref p') H'
abbrev NMX : List Str := ["_law_source_here", "_law_rows", "_law_way", "_law_at"]
section
variable {P : Program} {w : World} {K : PySem.W.Frag} {mg : Str → Option Value} {base : Heap}
theorem scMixed : FnScope NMX ["_law_source_here", "_law_rows"] (defScope s_L_mixed) := ⟨rfl, rfl, rfl, by decide +kernel, rfl, by decide +kernel, by decide +kernel⟩
theorem ok_mixed {f : Addr} {fd : FuncData} {q : Str} (F : FunD K "_law_mixed" q (defArgs s_L_mixed) (defBody s_L_mixed) (defScope s_L_mixed) [] [] f fd) (zr : mg "range" = none) (zt : mg "tuple" = none) (zn : mg "len" = none)
    (DD : Def P w K mg base CX0 1 "_law_draw" ["_law_source_here", "_law_many"] spDraw) :
    FnOk P w K mg base CX0 2 f fd ["_law_source_here", "_law_rows"] spMixed := by
  refine F.ok scMixed (fun vs H Q E h => ?_) (fun cdv A outer s H vs Q E hr h => ?_)
  · obtain ⟨l, p, n, gens, size, rfl, _⟩ := h
    rfl
  · obtain ⟨l, p, n, gens, size, rfl, src, n2, M, ne, g6, z1, z4, gv, k⟩ := h
    refine ⟨_, PSs.nox (pss_cons (ps_par (i := 2) (j := 3) rfl scMixed.nd rfl rfl (by decide) rfl rfl (pa_cons (pe_def DD hr pass0 rfl (pa_cons (pv 0) (pa_cons pe_int pa_nil))) (pa_cons (pe_def DD hr pass0 rfl (pa_cons (pv 0) (pa_cons (pe_callB call_len_seq rfl zn boot_len (pa_cons (pv 1) pa_nil)) pa_nil))) pa_nil)) (by rfl))
      (pss_cons (ps_if (PW.pt (pw_and (pt_cmpR op_eq (pv 2) pe_int (nomark _)) (pw_and1 (pt_cmpR op_lt (pe_callB call_len_seq rfl zn boot_len (pa_cons (pv 1) pa_nil)) pe_int (nomark _))))) (pss_one (ps_ret (pe_op op_catL (pv 1) (pe_lst (pa_cons (pe_ix ix_list (pv 1) (pv 3) (fun _ _ => rfl)) pa_nil))))) pss_nil)
      (pss_cons (ps_if (PW.pt (pw_and (pt_cmpR op_eq (pv 2) pe_int (nomark _)) (pw_and1 (pt_cmpR op_lt (pe_callB call_len_seq rfl zn boot_len (pa_cons (pv 1) pa_nil)) pe_int (nomark _)))))
        (pss_one (ps_ret (pe_op op_catL (pe_op op_catL (pe_slice sl_list (pv 1) po_none (po_some (pv 3))) (pe_lst (pa_cons (pe_tupRg rfl rfl zt (prg_1 rfl zr (pe_callB call_len_seq rfl zn boot_len (pa_cons (pe_ix ix_list (pv 1) pe_int (fun _ _ => rfl)) pa_nil)))) pa_nil))) (pe_slice sl_list (pv 1) (po_some (pv 3)) po_none)))) pss_nil)
      (pss_one (ps_ret (pv 1)))))), ?_⟩
    obtain ⟨as, hp, la, ea⟩ := M.ex
    have g0 : 0 < gens.length := List.length_pos_iff.mpr ne
    have pl : p ≠ l := fun z => by
      obtain ⟨a, b, c, e, _⟩ := src
      rw [← z, hp] at e
      injection e with e
      injection e with e
      cases as with
      | nil => cases e
      | cons x r => cases e
    refine ⟨_, rfl, l, n, 4, rfl, src, by omega, by decide, by decide, fun x H1 x0 x1 b1 src1 => ?_⟩
    have hp1 := b1 _ _ pl hp
    refine ⟨_, rfl, _, rfl, p, _, rfl, .inl (SqL.of hp1), l, n + 1, _, rfl, src1, by omega, by rw [List.length_map, la]; omega, by rw [List.length_map, la]; omega, fun y H2 y0 y1 b2 src2 => ⟨_, _, rfl, ?_⟩⟩
    have b12 := But.trans b1 b2
    have hp2 := b12 _ _ pl hp
    have EH : El H2 as gens := ⟨la, fun i a r h1 h2 => b12 _ _ (fun z => by
      have e := ea i a r h1 h2
      obtain ⟨u, v, w', e', _⟩ := src
      rw [z, e'] at e
      cases e) (ea i a r h1 h2)⟩
    rw [List.length_map, la] at y1
    obtain ⟨y, rfl⟩ : ∃ y' : Nat, y = (y' : Nat) := ⟨y.toNat, by omega⟩
    have yl : y < gens.length := by omega
    obtain ⟨ay, hay⟩ := lt_get (show y < as.length by omega)
    obtain ⟨gy, hgy⟩ := lt_get yl
    have src2' : Src H2 l (n + 2) := src2
    have out : ∀ (p' : Addr) (as' : List Addr) (gens' : List (List Nat)) (H' : Hp), Same H2 H' → H' p' = some (.lst (as'.map V.ref)) → El H' as' gens' → gens' ≠ [] → gens'.length ≤ 6 → (∀ g ∈ gens', Mon.Valid size g) → Q (.ref p') H' := fun p' as' gens' H' s h1 h2 h3 h4 h5 =>
      k p' gens' H' (But.trans b12 (But.of s)) ⟨as', h1, h2.1, h2.2⟩ h3 h4 h5 (src2'.same s)
    have len16 : ∀ k : Nat, k ≤ 100 → k ≤ sizeLine := fun k h => by show k ≤ 16777216; omega
    dsimp only
    refine tSeq_k ?_
    refine tIfS_k (R := fun σ' H' => σ' = [some (.ref l), some (.ref p), some (.int x), some (.int (y : Nat))] ∧ H' = H2) (fun key => ?_) (fun σ' H' ⟨eσ, eH⟩ => ?_)
    · refine ⟨_, rfl, rfl, _, rfl, ?_⟩
      by_cases h0 : x = 0
      · refine ifT (decide_eq_true (by rw [h0])) ?_
        refine ⟨_, rfl, p, _, rfl, .inl (SqL.of hp2), _, _, rfl, rfl, _, rfl, ?_⟩
        rw [List.length_map, la]
        by_cases hl : gens.length < 6
        · refine ifT (decide_eq_true (by omega)) ?_
          refine ⟨_, rfl, _, rfl, _, rfl, p, _, _, .ref ay, rfl, rfl, SqL.of hp2, atI_nat (get_map hay), (by show 1 ≤ sizeLine; decide), fun e ne' => ?_⟩
          have u1 := same_upd (o := .lst [V.ref ay]) ne'
          refine ⟨p, e, _, _, rfl, rfl, SqL.of (u1 _ _ hp2), SqL.of upd_same, len16 _ (by rw [List.length_map, la]; show gens.length + 1 ≤ 100; omega), fun r nr => ?_⟩
          have u2 := same_upd (o := .lst (as.map V.ref ++ [V.ref ay])) nr
          refine out r (as ++ [ay]) (gens ++ [gy]) _ (u1.trans u2) (by rw [upd_same]; simp) ((EH.app (El.one (EH.2 y ay gy hay hgy))).same (u1.trans u2)) (by simp) (by simp; omega) (fun g hg => ?_)
          rcases List.mem_append.mp hg with hg | hg
          · exact gv g hg
          · rw [List.mem_singleton.mp hg]
            exact gv gy (List.mem_of_getElem? hgy)
        · exact ifF (decide_eq_false (by omega)) (key _ _ ⟨rfl, rfl⟩)
      · exact ifF (decide_eq_false (fun z => h0 (by injection z))) (key _ _ ⟨rfl, rfl⟩)
    · subst eσ eH
      dsimp only
      refine tSeq_k ?_
      refine tIfS_k (R := fun σ'' H'' => σ'' = [some (.ref l), some (.ref p), some (.int x), some (.int (y : Nat))] ∧ H'' = H') (fun key => ?_) (fun σ'' H'' ⟨eσ, eH⟩ => ?_)
      · refine ⟨_, rfl, rfl, _, rfl, ?_⟩
        by_cases h0 : x = 1
        · refine ifT (decide_eq_true (by rw [h0])) ?_
          refine ⟨_, rfl, p, _, rfl, .inl (SqL.of hp2), _, _, rfl, rfl, _, rfl, ?_⟩
          rw [List.length_map, la]
          by_cases hl : gens.length < 6
          · refine ifT (decide_eq_true (by omega)) ?_
            obtain ⟨a0, ha0⟩ := lt_get (show 0 < as.length by omega)
            obtain ⟨g00, hg0⟩ := lt_get g0
            have v0 := gv g00 (List.mem_of_getElem? hg0)
            have cl : y ≤ (as.map V.ref).length := by rw [List.length_map]; omega
            refine ⟨_, rfl, _, rfl, _, rfl, p, _, rfl, SqL.of hp2, fun s1 ns1 => ?_⟩
            rw [cutTo cl]
            have u1 := same_upd (o := .lst ((as.map V.ref).take y)) ns1
            have h1 : L2.upd H' s1 (.lst ((as.map V.ref).take y)) s1 = some (.lst ((as.map V.ref).take y)) := upd_same
            generalize L2.upd H' s1 (.lst ((as.map V.ref).take y)) = H3 at u1 h1 ⊢
            refine ⟨_, rfl, p, as.map V.ref, 0, .ref a0, rfl, rfl, SqL.of (u1 _ _ hp2), atI_nat (j := 0) (get_map ha0), a0, g00.map nv, rfl, .inr (SqT.of (u1 _ _ (EH.2 0 a0 g00 ha0 hg0))), (size : Nat), by rw [List.length_map, v0.1], ?_⟩
            refine ⟨⟨by decide, by decide, by omega, by omega, by omega⟩, fun i0 ni0 => ?_⟩
            rw [rgV_nv]
            have u2 := same_upd (o := .tup ((Mon.idm size).map nv)) ni0
            have h2 : L2.upd H3 i0 (.tup ((Mon.idm size).map nv)) i0 = some (.tup ((Mon.idm size).map nv)) := upd_same
            have h12 := u2 _ _ h1
            have s2 := u1.trans u2
            generalize L2.upd H3 i0 (.tup ((Mon.idm size).map nv)) = H4 at u2 h2 h12 s2 ⊢
            refine ⟨(by show 1 ≤ sizeLine; decide), fun e ne' => ?_⟩
            have u3 := same_upd (o := .lst [V.ref i0]) ne'
            have h13 := u3 _ _ h12
            have h23 := u3 _ _ h2
            have h3 : L2.upd H4 e (.lst [V.ref i0]) e = some (.lst [V.ref i0]) := upd_same
            have s3 := s2.trans u3
            generalize L2.upd H4 e (.lst [V.ref i0]) = H5 at h13 h23 h3 s3 ⊢
            refine ⟨s1, e, _, _, rfl, rfl, SqL.of h13, SqL.of h3, len16 _ (by rw [List.length_take, List.length_map]; show _ + 1 ≤ 100; omega), fun c nc => ?_⟩
            have u4 := same_upd (o := .lst ((as.map V.ref).take y ++ [V.ref i0])) nc
            have h24 := u4 _ _ h23
            have h4 : L2.upd H5 c (.lst ((as.map V.ref).take y ++ [V.ref i0])) c = some (.lst ((as.map V.ref).take y ++ [V.ref i0])) := upd_same
            have s4 := s3.trans u4
            generalize L2.upd H5 c (.lst ((as.map V.ref).take y ++ [V.ref i0])) = H6 at h24 h4 s4 ⊢
            refine ⟨_, rfl, _, rfl, _, rfl, p, _, rfl, SqL.of (s4 _ _ hp2), fun s5' ns5 => ?_⟩
            rw [cutFrom cl]
            have u5 := same_upd (o := .lst ((as.map V.ref).drop y)) ns5
            have h25 := u5 _ _ h24
            have h45 := u5 _ _ h4
            have h5 : L2.upd H6 s5' (.lst ((as.map V.ref).drop y)) s5' = some (.lst ((as.map V.ref).drop y)) := upd_same
            have s5 := s4.trans u5
            generalize L2.upd H6 s5' (.lst ((as.map V.ref).drop y)) = H7 at h25 h45 h5 s5 ⊢
            refine ⟨c, s5', _, _, rfl, rfl, SqL.of h45, SqL.of h5, len16 _ (by rw [List.length_append, List.length_take, List.length_drop, List.length_map]; show _ + 1 + _ ≤ 100; omega), fun r nr => ?_⟩
            have u6 := same_upd (o := .lst ((as.map V.ref).take y ++ [V.ref i0] ++ (as.map V.ref).drop y)) nr
            refine out r (as.take y ++ [i0] ++ as.drop y) (gens.take y ++ [Mon.idm size] ++ gens.drop y) _ (s5.trans u6) (by rw [upd_same]; simp [List.map_take, List.map_drop]) ?_ (by simp) (by simp; omega) (fun g hg => ?_)
            · exact (((EH.take y).same (s5.trans u6)).app (El.one (u6 _ _ h25))).app ((EH.drop y).same (s5.trans u6))
            · rcases List.mem_append.mp hg with hg | hg
              · rcases List.mem_append.mp hg with hg | hg
                · exact gv g (List.mem_of_mem_take hg)
                · rw [List.mem_singleton.mp hg]
                  exact Mon.idm_valid
              · exact gv g (List.mem_of_mem_drop hg)
          · exact ifF (decide_eq_false (by omega)) (key _ _ ⟨rfl, rfl⟩)
        · exact ifF (decide_eq_false (fun z => h0 (by injection z))) (key _ _ ⟨rfl, rfl⟩)
      · subst eσ eH
        exact ⟨_, rfl, out p as gens _ (L2.Same.refl _) hp2 EH ne g6 gv⟩
end
end K18

set_option Elab.async false
set_option linter.all false
set_option maxRecDepth 100000
set_option maxHeartbeats 8000000
namespace K18
open PySem PySem.Spec PyProof.Rows L2 Lf LamX
theorem RowsL.extN {K : PySem.W.Frag} {H H' : Hp} {r : Addr} {rows : List (List Nat)} (h : RowsL K H r rows) (e : ExtN H H') : RowsL K H' r rows := by
  obtain ⟨as, a, b, c⟩ := h.ex
  exact ⟨as, sqL_extN e a, b, fun i x row h1 h2 => sqL_extN e (c i x row h1 h2)⟩
theorem RowsT.extN {K : PySem.W.Frag} {H H' : Hp} {r : Addr} {rows : List (List Nat)} (h : RowsT K H r rows) (e : ExtN H H') : RowsT K H' r rows := by
  obtain ⟨as, a, b, c⟩ := h.ex
  exact ⟨as, sqT_extN e a, b, fun i x row h1 h2 => sqT_extN e (c i x row h1 h2)⟩
theorem MadeT.extN {K : PySem.W.Frag} {H H' : Hp} {r : Addr} {m : List (Nat × Nat)} (h : MadeT K H r m) (e : ExtN H H') : MadeT K H' r m := by
  obtain ⟨as, a, b, c⟩ := h.ex
  exact ⟨as, sqT_extN e a, b, fun i x row h1 h2 => sqT_extN e (c i x row h1 h2)⟩
theorem Mo.extN {K : PySem.W.Frag} {H H' : Hp} {x : Addr} {rows : List (List Nat)} {m : List (Nat × Nat)} (h : Mo K H x rows m) (e : ExtN H H') : Mo K H' x rows m := by
  obtain ⟨dx, t, u, v, a, b, c, d⟩ := h.ex
  exact ⟨dx, t, u, v, e _ _ a (fun ps z => by cases z), b.extN e, c.extN e, d.extN e⟩
theorem Maps.extN {H H' : Hp} {p : Addr} {gens : List (List Nat)} (h : Maps H p gens) (e : ExtN H H') : Maps H' p gens := by
  obtain ⟨as, a, b, c⟩ := h.ex
  exact ⟨as, e _ _ a (fun ps z => by cases z), b, fun i x row h1 h2 => e _ _ (c i x row h1 h2) (fun ps z => by cases z)⟩
/-- pairs of words as data -/
def dP (q : List Nat × List Nat) : PyData := .tuple [dW q.1, dW q.2]
theorem pairs_sh {l : List (List Nat × List Nat)} (h : ∀ q ∈ l, (∀ c ∈ q.1, c < 6) ∧ ∀ c ∈ q.2, c < 6) : SeqAt.shaped (.list (l.map dP)) = true := sh_lay (k := 2) (lst_lay fun d hd => by
  obtain ⟨q, hq, rfl⟩ := List.mem_map.mp hd
  refine tup_lay fun d hd => ?_
  rcases List.mem_cons.mp hd with rfl | hd
  · exact dW_lay (h q hq).1
  · rw [List.mem_singleton.mp hd]
    exact dW_lay (h q hq).2) (by decide)
theorem dpP {K : PySem.W.Frag} {H : Hp} : ∀ {prs : List Addr} {qs : List (List Nat × List Nat)}, prs.length = qs.length → (∀ (j : Nat) a q, prs[j]? = some a → qs[j]? = some q → H a = some (.tup [wv q.1, wv q.2])) → DpAll K H (prs.map V.ref) (qs.map dP)
  | [], [], _, _ => .nil
  | [], _ :: _, h, _ => by simp at h
  | _ :: _, [], h, _ => by simp at h
  | a :: prs, q :: qs, h, e => .cons (.tup (SqT.of (e 0 a q rfl rfl)) (.cons (.str _) (.cons (.str _) .nil))) (dpP (by simpa using h) fun j x y h1 h2 => e (j + 1) x y (by simpa using h1) (by simpa using h2))
theorem cg_of {n : Nat} {gens found rows : List (List Nat)} (T : Mon.Tab n gens found rows) : Cg rows gens.length := fun u v i hu hv hi e => by
  obtain ⟨fx, hx⟩ := lt_get (show i < found.length by rw [← T.len]; exact hi)
  have a := T.walk T.head hu
  have b := T.walk T.head hv
  rw [e, b] at a
  have ee := Option.some.inj a
  have e1 := Mon.compW_comp T.vg (T.vf hx) (w := u) (y := Mon.idm n) Mon.idm_valid hu
  have e2 := Mon.compW_comp T.vg (T.vf hx) (w := v) (y := Mon.idm n) Mon.idm_valid hv
  rw [Mon.comp_id (T.vf hx)] at e1 e2
  rw [← ee, ← e2] at e1
  have c := T.walk hx hu
  have d := T.walk hx hv
  rw [e1] at c
  exact Mon.nodup_at T.nd c d
def spRight (K : PySem.W.Frag) : Sp := fun vs H Q _ => ∃ l p n gens, vs = [.ref l, .ref p] ∧ Maps H p gens ∧ gens ≠ [] ∧ gens.length ≤ 6 ∧ 1 ≤ n ∧ n ≤ 4 ∧ (∀ g ∈ gens, Mon.Valid n g) ∧ Tabs (Tbs K) H ∧ ∀ H', ExtN H H' → Tabs (Tbs K) H' → Q (.bl true) H'
abbrev NRI : List Str := ["_law_source_here", "_law_rows", "_law_found", "_law_words", "_law_table_here", "_law_monoid", "_law_due_here", "_law_told", "_law_most", "_law_pair"]
abbrev ttIs (K : PySem.W.Frag) : TT := tNot (tB (tCB (rIsi K) (tCons (tVar 9) (tCons (tC (.ty "tuple")) tNil))))
abbrev ttLn (K : PySem.W.Frag) : TT := tTest (tOp (rI0 fun i j => .bl (decide (i ≤ j))) (tCB (fun xs H Q => ∃ z, xs = [V.str z] ∧ z.length ≤ sizeLine ∧ Q (V.int z.length) H) (tCons (tOp (rIxT K) (tVar 9) (tC (.int 0))) tNil)) (tVar 8))
section
variable {P : Program} {w : World} {K : PySem.W.Frag} {mg : Str → Option Value} {base : Heap}
theorem scRight : FnScope NRI ["_law_source_here", "_law_rows"] (defScope s_L_right) := ⟨rfl, rfl, rfl, by decide +kernel, rfl, by decide +kernel, by decide +kernel⟩
theorem ok_right {f : Addr} {fd : FuncData} {q : Str} (F : FunD K "_law_right" q (defArgs s_L_right) (defBody s_L_right) (defScope s_L_right) [] [] f fd) (T : Txt P w K mg base)
    (DT : Def P w K mg base CX0 1 "_law_table" ["_law_rows"] (spTable K)) (DD : Def P w K mg base CX0 4 "_law_due" ["_law_words", "_law_table_here"] (spDue K)) (DB : Def P w K mg base CX0 2 "_law_by_words" ["_law_rows", "_law_found", "_law_words", "_law_most"] (spByW K))
    {fm : Addr} {fdm : FuncData} (mM : Mk K (He.ga K "Monoid") fm) (FM : FnOk P w K mg base CX0 4 fm fdm ["self", "right"] (spMon K)) (bM : Binds K fdm ["self", "right"] []) (DR : DefM P w K mg base CX0 2 "rules" ["self"] (spRules K)) :
    FnOk P w K mg base CX0 6 f fd ["_law_source_here", "_law_rows"] (spRight K) := by
  have cl : L2.Cls K (He.ga K "Monoid") := He.cls_ok (T.d.fact 41 (f := .cls "Monoid") rfl)
  have zn : mg "len" = none := T.fr 35 "len" rfl
  have zI : mg "isinstance" = none := T.fr 34 "isinstance" rfl
  have zl : mg "list" = none := T.fr 36 "list" rfl
  have zt : mg "tuple" = none := T.fr 39 "tuple" rfl
  obtain ⟨fr, fdr, mr, Fr, br⟩ := DR.ex
  refine F.ok scRight (fun vs H Q E h => ?_) (fun cdv A outer s H vs Q E hr h => ?_)
  · obtain ⟨l, p, n, gens, rfl, _⟩ := h
    rfl
  · obtain ⟨l, p, n, gens, rfl, MG, ne, g6, n1, n4, gv, hT, fin⟩ := h
    have R1 : Room 1 _ := hr.mono (by decide)
    have R2 : Room 2 _ := hr.mono (by decide)
    have R4 : Room 4 _ := hr.mono (by decide)
    have hu : (A.deeper (envOfC q (defScope s_L_right) s.heap.objs.size f cdv)).units + 64 < cLine := hr.units
    refine ⟨_, PSs.nox (pss_cons (ps_asg (pe_def DT R1 pass0 rfl (pa_cons (pv 1) pa_nil)) (pg_tup rfl (pgs_cons (pg_name (i := 2) scRight.nd rfl (.inl rfl)) (pgs_cons (pg_name (i := 3) scRight.nd rfl (.inl rfl)) (pgs_cons (pg_name (i := 4) scRight.nd rfl (.inl rfl)) pgs_nil)))))
      (pss_cons (ps_par (i := 5) (j := 6) rfl scRight.nd rfl rfl (by decide) rfl rfl (pa_cons (pe_make mM FM hr rfl (T.gl 3 "Monoid" rfl) bM .nil pass0 (pa_cons (pv 4) pa_nil)) (pa_cons (pe_def DD R4 pass0 rfl (pa_cons (pv 3) (pa_cons (pv 4) pa_nil))) pa_nil)) (by rfl))
      (pss_cons (ps_set (i := 7) scRight.nd rfl (.inl rfl) (pe_meth0 (pv 5) cl mr Fr R2 br .nil pass0))
      (pss_cons (ps_if (PW.pt (pw_or (pt_cmpR (op_neD hu) (pv 7) (pv 6) (nomark _)) (pw_or (pt_not (pt_val (pe_callB call_isi rfl zI PyProof.Rows.boot_isinstance (pa_cons (pv 7) (pa_cons (pe_bltn (v := .ty "list") rfl zl PyProof.Rows.boot_list rfl) pa_nil))))) (pw_or1 (pt_cmpR (op_neD hu) (pe_lc (own := [("_law_pair", 9)]) (g := gName 9) (tt := ttIs K) (te := tVar 9) (by rfl) scRight.nd (pi_list (pv 7)) (blkOk_by (own := [("_law_pair", 9)]) (N := NRI) (sc := defScope s_L_right) (by decide +kernel)) (fun _ _ _ _ _ => pg_name (i := 9) scRight.nd rfl (Or.inl rfl))
            (fun _ _ _ _ _ => by exact pts_one (pt_not (pt_val (pe_callB call_isi rfl zI PyProof.Rows.boot_isinstance (pa_cons (pv 9) (pa_cons (pe_bltn (v := .ty "tuple") rfl zt PyProof.Rows.boot_tuple rfl) pa_nil)))))) (fun _ _ _ _ _ => pv 9)) (pe_lst pa_nil) (nomark _)))))) (pss_one (ps_ret pe_bl)) pss_nil)
      (pss_cons (ps_expr (pe_bm PySem.F.plainAttrs_list PySem.F.slot_list_append PySem.F.type_list_append mt_append (pv 7) (pa_cons pe_non pa_nil)))
      (pss_cons (ps_if (PW.pt (pw_or (pt_cmpR (op_neD hu) (pe_meth0 (pv 5) cl mr Fr R2 br .nil pass0) (pv 6) (nomark _)) (pw_or1 (pt_cmpR op_gt (pe_callB call_len_seq rfl zn boot_len (pa_cons (pv 6) pa_nil)) (pe_op op_mul (pe_callB call_len_seq rfl zn boot_len (pa_cons (pv 2) pa_nil)) (pe_callB call_len_seq rfl zn boot_len (pa_cons (pv 1) pa_nil))) (nomark _))))) (pss_one (ps_ret pe_bl)) pss_nil)
      (pss_cons (ps_set (i := 8) scRight.nd rfl (.inr rfl) (pe_ix ix_list (pe_lst (pa_cons pe_int (pa_cons pe_int (pa_cons pe_int (pa_cons pe_int (pa_cons pe_int (pa_cons pe_int (pa_cons pe_int pa_nil)))))))) (pe_callB call_len_seq rfl zn boot_len (pa_cons (pv 1) pa_nil)) (fun _ _ => rfl)))
      (pss_cons (ps_if (pt_cmpR op_gt (pe_callB call_len_seq rfl zn boot_len (pa_cons (pv 2) pa_nil)) pe_int (nomark _)) (pss_one (ps_ret pe_bl)) pss_nil)
      (pss_one (ps_ret (pe_cmpR (op_eqD hu) (pe_lc (own := [("_law_pair", 9)]) (g := gName 9) (tt := ttLn K) (te := tVar 9) (by rfl) scRight.nd (pi_list (pv 6)) (blkOk_by (own := [("_law_pair", 9)]) (N := NRI) (sc := defScope s_L_right) (by decide +kernel)) (fun _ _ _ _ _ => pg_name (i := 9) scRight.nd rfl (Or.inl rfl))
            (fun _ _ _ _ _ => by exact pts_one (pt_cmpR op_le (pe_callB call_len_str rfl zn boot_len (pa_cons (pe_ix ix_tup (pv 9) pe_int (fun _ _ => rfl)) pa_nil)) (pv 8) (nomark _))) (fun _ _ _ _ _ => pv 9))
          (pe_def DB R2 pass0 rfl (pa_cons (pv 1) (pa_cons (pv 2) (pa_cons (pv 3) (pa_cons (pv 8) pa_nil))))) (nomark _)))))))))))), ?_⟩
    refine ⟨_, rfl, p, n, gens, rfl, MG, ne, g6, n1, n4, gv, fun TT' pf pw pt pn as bs found rows m H5 s5 nT hTT L Tb hm lm _ => ?_⟩
    refine ⟨TT', _, rfl, SqT.of hTT, rfl, _, _, rfl, _, _, rfl, _, _, rfl, rfl, ?_⟩
    have rl := Tb.len
    have f256 : found.length ≤ 256 := by
      have f1 := Mon.maps_few Tb.nd Tb.val
      have f2 : n ^ n ≤ 256 := by
        have : n = 1 ∨ n = 2 ∨ n = 3 ∨ n = 4 := by omega
        rcases this with rfl | rfl | rfl | rfl <;> decide
      omega
    have ac := accept_of Tb ne g6 (by omega) hm lm
    have FO := ac.form
    have f5 := FO.2.2.2.2
    have g1 := FO.2.2.1
    have cg := cg_of Tb
    refine ⟨_, rfl, fun x dx nx ndx xdx => ?_⟩
    have u1 := same_upd (o := .own x) ndx
    have nx1 : L2.upd H5 dx (.own x) x = none := by rw [upd_ne (Ne.symm xdx)]; exact nx
    have u2 := u1.trans (same_upd (o := .ins (He.ga K "Monoid") dx []) nx1)
    have hx2 : L2.upd (L2.upd H5 dx (.own x)) x (.ins (He.ga K "Monoid") dx []) x = some (.ins (He.ga K "Monoid") dx []) := upd_same
    generalize L2.upd (L2.upd H5 dx (.own x)) x (.ins (He.ga K "Monoid") dx []) = H6 at u2 hx2 ⊢
    have L6 := L.same u2
    refine ⟨x, pt, dx, rows, gens.length, m, rfl, hx2, ⟨bs, SqL.of L6.t, L6.tl, fun j b r h1 h2 => SqL.of (L6.te j b r h1 h2)⟩, ac, fun H7 b7 mo => ⟨rfl, ?_⟩⟩
    have s57 : Same H5 H7 := fun b o e => b7 _ _ (ne_of_none e nx) (u2 _ _ e)
    have L7 := L.same s57
    have s07 := s5.trans s57
    have RT7 : RowsL K H7 pt rows := ⟨bs, SqL.of L7.t, L7.tl, fun j b r h1 h2 => SqL.of (L7.te j b r h1 h2)⟩
    have MF7 : Maps H7 pf found := ⟨as, L7.f, L7.fl, L7.fe⟩
    have hw7 := L7.w
    have hT7 := hT.ext s07
    have MG7 := MG.same s07
    clear u1 u2 nx1 hx2 L6 b7 L7 L hTT nT s57
    refine ⟨_, rfl, _, rfl, pw, pt, rows, m, gens.length, rfl, SqL.of hw7, RT7, FO, hm, lm, hT7, fun dp dprs H8 e8 hT8 _ PD => ⟨_, _, rfl, ?_⟩⟩
    have e08 := (ExtN.of s07).trans e8
    have M8 := mo.extN e8
    have MG8 := MG7.extN e8
    have MF8 := MF7.extN e8
    have hw8 : H8 pw = some (.lst ((Mon.wordTab m).map wv)) := e8 _ _ hw7 (fun ps z => by cases z)
    clear e8 hw7 MF7 MG7 RT7 hT7 s07 mo
    obtain ⟨dx8, _, _, _, hx8, _⟩ := id M8.ex
    have dueN : (dueP rows m gens.length).length ≤ 256 * 6 := by
      have q1 := due_few (rows := rows) (m := m) (wd := gens.length) rows.length 0
      have q2 : rows.length * gens.length ≤ 256 * 6 := Nat.mul_le_mul (by omega) g6
      have : (dueP rows m gens.length) = ((List.range rows.length).flatMap fun i => (List.range gens.length).flatMap (dueAt rows m i)) ++ (List.range 0).flatMap (dueAt rows m rows.length) := by simp [dueP]
      rw [this]
      omega
    have due6 : ∀ q ∈ dueP rows m gens.length, (∀ c ∈ q.1, c < 6) ∧ ∀ c ∈ q.2, c < 6 := fun q hq => by
      obtain ⟨i, hi, hq⟩ := List.mem_flatMap.mp hq
      obtain ⟨c, hc, hq⟩ := List.mem_flatMap.mp hq
      have hc := List.mem_range.mp hc
      unfold dueAt at hq
      split at hq
      · rw [List.mem_singleton.mp hq]
        refine ⟨fun d hd => ?_, fun d hd => ?_⟩
        · rcases List.mem_append.mp hd with hd | hd
          · have := Mon.word_ok hm f5 i d hd
            omega
          · rw [List.mem_singleton.mp hd]
            omega
        · have := Mon.word_ok hm f5 _ d hd
          omega
      · cases hq
    have er := rules_due FO hm lm cg
    refine ⟨_, rfl, x, dx8, _, rfl, hx8, rfl, x, rows, m, gens.length, rfl, M8, FO, hm, lm, fun lt lprs H9 s9 nlt PT => ?_⟩
    rw [er] at PT
    have PD9 := PD.same s9
    refine ⟨_, rfl, _, rfl, ne_dI (Dp.lst (SqL.of PT.at') (dpP PT.len PT.el)) (Dp.lst (SqL.of PD9.at') (dpP PD9.len PD9.el)) (pairs_sh due6) ⟨_, rfl, ?_⟩⟩
    refine ifF rfl ?_
    refine ⟨_, rfl, _, .ty "list", .type "list", .type "list", true, rfl, .ty _, .base (.lst PT.at'), kit_ty (show kitB "list" "list" = some true by decide +kernel), _, rfl, ?_⟩
    refine ifF rfl ?_
    refine ⟨_, rfl, lt, rfl, ⟨_, SqL.of PT.at'⟩, fun D nD => ?_⟩
    refine lc_list (K := K) (a := lt) (xs := lprs.map V.ref) (fun c Hd => But D H9 Hd ∧ Hd D = some (.lst [])) ⟨But.upd, upd_same⟩ (fun c Hd _ ⟨bd, _⟩ => SqL.of ((Same.but (L2.Same.refl _) nD bd) _ _ PT.at')) (fun c y Hd hy ⟨bd, hD⟩ => ?_) (fun Hd ⟨bd, hD⟩ => ?_)
    · obtain ⟨a, ha, rfl⟩ := map_get hy
      obtain ⟨qq, hq⟩ := lt_get (show c < (dueP rows m gens.length).length by rw [← PT.len]; exact get_lt ha)
      have sd := Same.but (L2.Same.refl _) nD bd
      refine ⟨rfl, ?_⟩
      refine ⟨_, rfl, _, .ty "tuple", .type "tuple", .type "tuple", true, rfl, .ty _, .base (.tup (sd _ _ (PT.el c a qq ha hq))), kit_ty (show kitB "tuple" "tuple" = some true by decide +kernel), _, rfl, ?_⟩
      exact ifF rfl ⟨bd, hD⟩
    · have sd := Same.but (L2.Same.refl _) nD bd
      refine ⟨(by show 0 ≤ sizeLine; decide), fun E' nE => ?_⟩
      have u3 := same_upd (o := .lst []) nE
      have s10 := sd.trans u3
      refine ne_dI (d := .list []) (Dp.lst (SqL.of (u3 _ _ hD)) .nil) (Dp.lst (SqL.of upd_same) .nil) (by decide) ⟨_, rfl, ?_⟩
      refine ifF rfl ?_
      have PT10 := PT.same s10
      have s810 := s9.trans s10
      generalize L2.upd Hd E' (.lst []) = H10 at s10 s810 PT10 ⊢
      clear hD bd nD nE u3 sd PT s10 PD9
      -- told.append(None)
      refine ⟨_, rfl, .inl ⟨rfl, _, SqL.of PT10.at'⟩, lt, _, _, rfl, rfl, PT10.at', ?_, ?_⟩
      · rw [List.length_map, PT10.len]
        show _ < 16777216
        omega
      have s11 : Same H8 (L2.upd H10 lt (.lst (lprs.map V.ref ++ [V.non]))) := fun b o e => by
        rw [upd_ne (ne_of_none e nlt)]
        exact s810 b o e
      generalize L2.upd H10 lt (.lst (lprs.map V.ref ++ [V.non])) = H11 at s11 ⊢
      clear PT10 s810 s9
      have M11 := M8.same s11
      refine ⟨_, rfl, x, dx8, _, rfl, s11 _ _ hx8, rfl, x, rows, m, gens.length, rfl, M11, FO, hm, lm, fun l2 l2prs H12 s12 nl2 P2 => ?_⟩
      rw [er] at P2
      have s812 := s11.trans s12
      have PD12 := PD.same s812
      refine ⟨_, rfl, ne_dI (Dp.lst (SqL.of P2.at') (dpP P2.len P2.el)) (Dp.lst (SqL.of PD12.at') (dpP PD12.len PD12.el)) (pairs_sh due6) ⟨_, rfl, ?_⟩⟩
      refine ifF rfl ?_
      obtain ⟨fs, hfs, lfs, efs⟩ := id (MF8.same s812).ex
      obtain ⟨gs, hgs, lgs, egs⟩ := id (MG8.same s812).ex
      have cnt : (dueP rows m gens.length).length ≤ found.length * gens.length := by
        have q1 := due_few (rows := rows) (m := m) (wd := gens.length) rows.length 0
        have : (dueP rows m gens.length) = ((List.range rows.length).flatMap fun i => (List.range gens.length).flatMap (dueAt rows m i)) ++ (List.range 0).flatMap (dueAt rows m rows.length) := by simp [dueP]
        rw [this, ← rl]
        omega
      refine ⟨_, rfl, dp, _, rfl, .inl (SqL.of PD12.at'), ?_⟩
      refine ⟨_, rfl, pf, _, rfl, .inl (SqL.of hfs), _, rfl, p, _, rfl, .inl (SqL.of hgs), _, _, rfl, rfl, .inl ⟨by omega, by rw [List.length_map]; omega⟩, _, _, rfl, rfl, _, rfl, ?_⟩
      refine ifF (decide_eq_false ?_) ?_
      · rw [List.length_map, List.length_map, List.length_map, PD12.len, lfs, lgs]
        have c2 : ((dueP rows m gens.length).length : Int) ≤ ((found.length * gens.length : Nat) : Int) := by omega
        rw [Int.natCast_mul] at c2
        omega
      obtain ⟨most, m8, pw8, em⟩ : ∃ most : Nat, most ≤ 8 ∧ (∀ k, k ≤ most → gens.length ^ k ≤ 216) ∧ atI [V.int 0, V.int 8, V.int 6, V.int 4, V.int 3, V.int 3, V.int 3] (((gs.map V.ref).length : Nat) : Int) = some (.int (most : Nat)) := by
        rw [List.length_map, lgs]
        have : gens.length = 1 ∨ gens.length = 2 ∨ gens.length = 3 ∨ gens.length = 4 ∨ gens.length = 5 ∨ gens.length = 6 := by omega
        rcases this with e | e | e | e | e | e <;> rw [e]
        · exact ⟨8, by decide, fun k hk => Nat.le_trans (Nat.pow_le_pow_right (by decide) hk) (by decide), rfl⟩
        · exact ⟨6, by decide, fun k hk => Nat.le_trans (Nat.pow_le_pow_right (by decide) hk) (by decide), rfl⟩
        · exact ⟨4, by decide, fun k hk => Nat.le_trans (Nat.pow_le_pow_right (by decide) hk) (by decide), rfl⟩
        · exact ⟨3, by decide, fun k hk => Nat.le_trans (Nat.pow_le_pow_right (by decide) hk) (by decide), rfl⟩
        · exact ⟨3, by decide, fun k hk => Nat.le_trans (Nat.pow_le_pow_right (by decide) hk) (by decide), rfl⟩
        · exact ⟨3, by decide, fun k hk => Nat.le_trans (Nat.pow_le_pow_right (by decide) hk) (by decide), rfl⟩
      refine ⟨(by show 7 ≤ sizeLine; decide), fun e0 ne0 => ?_⟩
      have u13 := same_upd (o := .lst [V.int 0, V.int 8, V.int 6, V.int 4, V.int 3, V.int 3, V.int 3]) ne0
      have he0 : L2.upd H12 e0 (.lst [V.int 0, V.int 8, V.int 6, V.int 4, V.int 3, V.int 3, V.int 3]) e0 = some (.lst [V.int 0, V.int 8, V.int 6, V.int 4, V.int 3, V.int 3, V.int 3]) := upd_same
      have s813 := s812.trans u13
      generalize L2.upd H12 e0 (.lst [V.int 0, V.int 8, V.int 6, V.int 4, V.int 3, V.int 3, V.int 3]) = H13 at u13 he0 s813 ⊢
      have PD13 := PD.same s813
      refine ⟨_, rfl, p, _, rfl, .inl (SqL.of (u13 _ _ hgs)), e0, _, _, _, rfl, rfl, SqL.of he0, em, ?_⟩
      refine ⟨_, rfl, pf, _, rfl, .inl (SqL.of (u13 _ _ hfs)), _, _, rfl, rfl, _, rfl, ?_⟩
      have done : ∀ H', Same H8 H' → Q (.bl true) H' := fun H' s => fin H' (e08.trans (ExtN.of s)) (hT8.ext s)
      rw [List.length_map, lfs]
      by_cases h40 : 40 < found.length
      · exact ifT (decide_eq_true (by omega)) (done _ s813)
      · refine ifF (decide_eq_false (by omega)) ?_
        refine ⟨_, rfl, dp, rfl, ⟨_, SqL.of PD13.at'⟩, fun D nD => ?_⟩
        refine lc_list (K := K) (a := dp) (xs := dprs.map V.ref) (fun c Hd => But D H13 Hd ∧ ∃ ps : List Addr, Prw Hd D ps (((dueP rows m gens.length).take c).filter fun p => decide (p.1.length ≤ most))) ⟨But.upd, [], Prw.nil upd_same⟩ (fun c Hd _ ⟨bd, _⟩ => SqL.of ((Same.but (L2.Same.refl _) nD bd) _ _ PD13.at')) (fun c y Hd hy ⟨bd, ps, PP⟩ => ?_) (fun Hd ⟨bd, ps, PP⟩ => ?_)
        · obtain ⟨a, ha, rfl⟩ := map_get hy
          obtain ⟨qq, hq⟩ := lt_get (show c < (dueP rows m gens.length).length by rw [← PD13.len]; exact get_lt ha)
          have sd := Same.but (L2.Same.refl _) nD bd
          have eqq := sd _ _ (PD13.el c a qq ha hq)
          refine ⟨rfl, ?_⟩
          have ql : (ws qq.1).length = qq.1.length := ws_len
          have q16 : qq.1.length ≤ 1000 := by
            obtain ⟨i, hi, hq'⟩ := List.mem_flatMap.mp (List.mem_of_getElem? hq)
            obtain ⟨c', hc', hq'⟩ := List.mem_flatMap.mp hq'
            unfold dueAt at hq'
            split at hq'
            · rw [List.mem_singleton.mp hq']
              have := word_short (Mon.mem_W (m := m) (j := i) (by have := List.mem_range.mp hi; omega))
              rw [List.length_append]
              show (Mon.W m i).length + 1 ≤ _
              omega
            · cases hq'
          refine ⟨_, rfl, a, _, 0, wv qq.1, rfl, rfl, SqT.of eqq, rfl, ws qq.1, rfl, (by rw [ql]; show _ ≤ 16777216; omega), _, rfl, _, _, rfl, rfl, _, rfl, ?_⟩
          have eP : ((dueP rows m gens.length).take (c + 1)).filter (fun p => decide (p.1.length ≤ most)) = ((dueP rows m gens.length).take c).filter (fun p => decide (p.1.length ≤ most)) ++ if qq.1.length ≤ most then [qq] else [] := by
            rw [take_snoc hq, List.filter_append]
            congr 1
            by_cases h : qq.1.length ≤ most
            · simp [h]
            · simp [h]
          rw [eP, ql]
          by_cases h : qq.1.length ≤ most
          · refine ifT (decide_eq_true (by omega)) ?_
            rw [if_pos h]
            refine ⟨_, rfl, _, PP.at', ?_, bd.trans But.upd, ps ++ [a], PP.add eqq⟩
            have q1 := List.length_filter_le (fun p : List Nat × List Nat => decide (p.1.length ≤ most)) ((dueP rows m gens.length).take c)
            rw [List.length_take] at q1
            rw [List.length_map, PP.len]
            show _ < 16777216
            omega
          · refine ifF (decide_eq_false (by omega)) ?_
            rw [if_neg h, List.append_nil]
            exact ⟨bd, ps, PP⟩
        · have sd := Same.but (L2.Same.refl _) nD bd
          have s8d := s813.trans sd
          rw [List.length_map, PD13.len, List.take_length, due_by FO hm lm cg] at PP
          refine ⟨_, rfl, _, rfl, _, rfl, _, rfl, p, pf, pw, n, gens, found, rows, m, most, rfl, MG8.same s8d, MF8.same s8d, SqL.of (s8d _ _ hw8), Tb, n4, FO, hm, lm, f256, m8, pw8, fun lb bprs H14 s14 nlb PB => ?_⟩
          have PP14 := PP.same s14
          have by6 : ∀ q ∈ byW rows m gens.length most, (∀ c ∈ q.1, c < 6) ∧ ∀ c ∈ q.2, c < 6 := fun q hq => by
            rw [← due_by FO hm lm cg] at hq
            exact due6 q (List.mem_filter.mp hq).1
          exact eq_dI (Dp.lst (SqL.of PP14.at') (dpP PP14.len PP14.el)) (Dp.lst (SqL.of PB.at') (dpP PB.len PB.el)) (pairs_sh by6) (done H14 (s8d.trans s14))
end
end K18

set_option Elab.async false
set_option linter.all false
set_option maxRecDepth 100000
set_option maxHeartbeats 8000000
namespace K18
open PySem PySem.Spec PyProof.Rows L2 Lf LamX
abbrev NL : List Str := ["_law_script", "_law_cell", "_law_source_here", "_law_turn", "_law_ring", "_law_letter", "_law_number"]
def spLaw (K : PySem.W.Frag) : Sp := fun vs H Q _ => ∃ (a : Addr) (ns : List Int), vs = [.ref a] ∧ SqL K H a (ns.map V.int) ∧ ns.length ≤ 63 ∧ Tabs (Tbs K) H ∧ ∀ H', Q (.bl true) H'
theorem tabs_but {T : List (Addr × Str)} {H H' : Hp} {a : Addr} {o' : HO} (t : Tabs T H) (e : But a H H') (h : H a = some o') (h1 : ∀ ps, o' ≠ .tbl ps) (h2 : ∀ φ, o' ≠ .ext φ) : Tabs T H' := fun p hp => by
  obtain ⟨ps, e1, e2, e3⟩ := t p hp
  have ne : ∀ b u, H b = some u → u ≠ o' → b ≠ a := fun b u hb hu z => by
    rw [z, h] at hb
    exact hu (Option.some.inj hb).symm
  refine ⟨ps, e _ _ (ne _ _ e1 (fun z => h1 ps z.symm)) e1, e2, fun pos cv hc => ?_⟩
  obtain ⟨c, e4, e5⟩ := e3 pos cv hc
  exact ⟨c, e4, e _ _ (ne _ _ e5 (fun z => h2 _ z.symm)) e5⟩
theorem Src.extN {H H' : Hp} {l : Addr} {n : Nat} (h : Src H l n) (e : ExtN H H') : Src H' l n := by
  obtain ⟨a, b, c, h1, h2⟩ := h
  exact ⟨a, b, c, e _ _ h1 (fun ps z => by cases z), h2⟩
theorem tab_of {n : Nat} {gens found rows : List (List Nat)} (nd : found.Nodup) (val : ∀ x ∈ found, x.length = n ∧ ∀ i ∈ x, i < n) (gval : ∀ x ∈ gens, x.length = n ∧ ∀ i ∈ x, i < n) (head : found[0]? = some (Mon.idm n)) (len : rows.length = found.length) (wid : ∀ row ∈ rows, row.length = gens.length)
    (ent : ∀ i ∈ List.range rows.length, ∀ c ∈ List.range gens.length, found[(rows.getD i []).getD c 0]? = some (Mon.comp (found.getD i []) (gens.getD c []))) : Mon.Tab n gens found rows where
  nd := nd
  val := val
  gval := gval
  head := head
  len := len
  wid := fun i row h => wid row (List.mem_of_getElem? h)
  ent := fun i row hr c t ht => by
    have il := get_lt hr
    have cl : c < gens.length := by rw [← wid row (List.mem_of_getElem? hr)]; exact get_lt ht
    obtain ⟨x, hx⟩ := lt_get (show i < found.length by rw [← len]; exact il)
    obtain ⟨g, hg⟩ := lt_get cl
    have e := ent i (List.mem_range.mpr il) c (List.mem_range.mpr cl)
    rw [Mon.getD_of hr, Mon.getD_of ht, Mon.getD_of hx, Mon.getD_of hg] at e
    exact ⟨x, g, hx, hg, e⟩
def r6 : List (List Nat) := [[0, 0, 0, 0, 0, 0]]
def r2 : List (List Nat) := [[1, 1], [1, 1]]
def rR : List (List Nat) := ((List.range 39).map fun k => [k + 1]) ++ [[7]]
def mR : List (Nat × Nat) := (List.range 39).map fun k => (k, 0)
/-- the powers of the step round the ring -/
def gR : List Nat := (List.range 40).map fun p => if p = 39 then 7 else p + 1
def fR : List (List Nat) := (List.range 40).map fun k => (List.range 40).map fun p => if p + k < 40 then p + k else 7 + (p + k - 7) % 33
theorem q_b : V.str ("b" : Str) = wv [1] := congrArg V.str (by decide +kernel)
theorem q_a : V.str ("a" : Str) = wv [0] := congrArg V.str (by decide +kernel)
theorem q_aa : V.str ("aa" : Str) = wv [0, 0] := congrArg V.str (by decide +kernel)
theorem q_tx : V.str ("a" : Str) = V.str (tx [97]) := congrArg V.str (by decide +kernel)
theorem q_40 : V.str (tx (List.replicate 40 [97]).flatten) = wv (List.replicate 40 0) := congrArg V.str (by decide +kernel)
theorem q_7 : V.str (tx (List.replicate 7 [97]).flatten) = wv (List.replicate 7 0) := congrArg V.str (by decide +kernel)
theorem ac6 : Accept r6 6 [] := accept_of (n := 1) (gens := [[0], [0], [0], [0], [0], [0]]) (found := [[0]]) (tab_of (by decide) (by decide) (by decide) (by decide) (by decide) (by decide) (by decide)) (by decide) (by decide) (by decide) (by rfl) rfl
theorem ac2 : Accept r2 2 [(0, 0)] := accept_of (n := 2) (gens := [[0, 0], [0, 0]]) (found := [[0, 1], [0, 0]]) (tab_of (by decide) (by decide) (by decide) (by decide) (by decide) (by decide) (by decide)) (by decide) (by decide) (by decide) (by rfl) rfl
theorem acR : Accept rR 1 mR := accept_of (n := 40) (gens := [gR]) (found := fR) (tab_of (by decide +kernel) (by decide +kernel) (by decide +kernel) (by decide +kernel) (by decide +kernel) (by decide +kernel) (by decide +kernel)) (by decide) (by decide) (by decide +kernel) (by decide +kernel) (by decide +kernel)
def d6 : List (List Nat × List Nat) := (List.range 6).map fun c => ([c], [])
theorem e6 : rulesP r6 [] 6 = d6 := by decide +kernel
theorem e2 : rulesP r2 [(0, 0)] 2 = [([1], [0]), ([0, 0], [0])] := by decide +kernel
theorem eR : rulesP rR mR 1 = [(List.replicate 40 0, List.replicate 7 0)] := by decide +kernel
/-- Monoid(rows), the rows at r -/
theorem mk2 {K : PySem.W.Frag} {H : Hp} {r x dx : Addr} {rows : List (List Nat)} {wd : Nat} {m : List (Nat × Nat)} {W : Hp → Prop} (R : RowsL K H r rows) (ac : Accept rows wd m) (nx : H x = none) (ndx : H dx = none) (xdx : dx ≠ x)
    (k : ∀ H3 dx0 t u v, Mo K H3 x rows m → Same H H3 → H3 x = some (.ins (He.ga K "Monoid") dx0 [("right", .ref t), ("_made", .ref u), ("_left", .ref v)]) → W H3) :
    spMon K [.ref x, .ref r] (L2.upd (L2.upd H dx (.own x)) x (.ins (He.ga K "Monoid") dx [])) (fun v H2 => v = .non ∧ W H2) E0 := by
  have u1 := same_upd (o := .own x) ndx
  have nx1 : L2.upd H dx (.own x) x = none := by rw [upd_ne (Ne.symm xdx)]; exact nx
  have u2 := u1.trans (same_upd (o := .ins (He.ga K "Monoid") dx []) nx1)
  refine ⟨x, r, dx, rows, wd, m, rfl, upd_same, R.same u2, ac, fun H3 b3 mo => ⟨rfl, ?_⟩⟩
  obtain ⟨dx0, t, u, v, hx3, _⟩ := id mo.ex
  exact k H3 dx0 t u v mo (fun b o e => b3 _ _ (ne_of_none e nx) (u2 _ _ e)) hx3
theorem rows1 {K : PySem.W.Frag} {H : Hp} {r y0 : Addr} {row : List Nat} (hr : H r = some (.lst [.ref y0])) (hy : H y0 = some (.lst (row.map nv))) : RowsL K H r [row] := ⟨[y0], SqL.of hr, rfl, fun i b rw' g1 g2 => by
  cases i with
  | zero =>
    cases g1
    cases g2
    exact SqL.of hy
  | succ i => simp at g1⟩
abbrev teLe : TE := tTup (tCons (tVar 5) (tCons (tC (.str ("" : Str))) tNil))
abbrev teNu : TE := tLst (tCons (tOp (rI0 fun i j => .int (i + j)) (tVar 6) (tC (.int 1))) tNil)
section
variable {P : Program} {w : World} {K : PySem.W.Frag} {mg : Str → Option Value} {base : Heap}
theorem scLaw : FnScope NL ["_law_script"] (defScope s_law) := ⟨rfl, rfl, rfl, by decide +kernel, rfl, by decide +kernel, by decide +kernel⟩
theorem ok_law {f : Addr} {fd : FuncData} {q : Str} (F : FunD K "law" q (defArgs s_law) (defBody s_law) (defScope s_law) [] [] f fd) (T : Txt P w K mg base)
    (DS : Def P w K mg base CX0 1 "_law_source" ["_law_cell"] spSource) (DM : Def P w K mg base CX0 2 "_law_maps" ["_law_source_here", "_law_most_points", "_law_most_letters"] spMaps) (DX : Def P w K mg base CX0 2 "_law_mixed" ["_law_source_here", "_law_rows"] spMixed)
    (DR : Def P w K mg base CX0 6 "_law_right" ["_law_source_here", "_law_rows"] (spRight K))
    {fm : Addr} {fdm : FuncData} (mM : Mk K (He.ga K "Monoid") fm) (FM : FnOk P w K mg base CX0 4 fm fdm ["self", "right"] (spMon K)) (bM : Binds K fdm ["self", "right"] []) (DU : DefM P w K mg base CX0 2 "rules" ["self"] (spRules K)) :
    FnOk P w K mg base CX0 7 f fd ["_law_script"] (spLaw K) := by
  have cl : L2.Cls K (He.ga K "Monoid") := He.cls_ok (T.d.fact 41 (f := .cls "Monoid") rfl)
  have zr : mg "range" = none := T.fr 37 "range" rfl
  have zi : mg "int" = none := T.fr 33 "int" rfl
  obtain ⟨fu, fdu, mu, Fu, bu⟩ := DU.ex
  refine F.ok scLaw (fun vs H Q E h => ?_) (fun cdv A outer s H vs Q E hr h => ?_)
  · obtain ⟨a, ns, rfl, _⟩ := h
    rfl
  · obtain ⟨a, ns, rfl, hS, hlen, hT, fin⟩ := h
    have R1 : Room 1 _ := hr.mono (by decide)
    have R2 : Room 2 _ := hr.mono (by decide)
    have R5 : Room 5 _ := hr.mono (by decide)
    have hu : (A.deeper (envOfC q (defScope s_law) s.heap.objs.size f cdv)).units + 64 < cLine := hr.units
    refine ⟨_, PSs.nox (pss_cons (ps_for PassesOwn.never rfl (pi_list (pe_slice sl_list (pe_op op_catL (pv 0) (pe_lst (pa_cons pe_int pa_nil))) po_none (po_some pe_int))) (pg_name (i := 1) scLaw.nd rfl (.inl rfl))
        (pss_cons (ps_set (i := 2) scLaw.nd rfl (.inl rfl) (pe_def DS R1 pass0 rfl (pa_cons (pv 1) pa_nil)))
        (pss_one (ps_for PassesOwn.never rfl (pi_range1 rfl zr (pa_cons pe_int pa_nil)) (pg_name (i := 3) scLaw.nd rfl (.inl rfl))
          (pss_one (ps_if (pt_not (pt_val (pe_def DR hr pass0 rfl (pa_cons (pv 2) (pa_cons (pe_def DX R2 pass0 rfl (pa_cons (pv 2) (pa_cons (pe_def DM R2 pass0 rfl (pa_cons (pv 2) (pa_cons (pe_op op_sub pe_int (pe_callTy call_int1 rfl zi boot_int (pa_cons (pe_cmpR op_eq (pv 3) pe_int (nomark _)) pa_nil)))
              (pa_cons (pe_op op_sub pe_int (pe_op op_mul pe_int (pe_callTy call_int1 rfl zi boot_int (pa_cons (pe_cmpR op_gt (pv 3) pe_int (nomark _)) pa_nil)))) pa_nil)))) pa_nil))) pa_nil))))) (pss_one (ps_ret pe_bl)) pss_nil))))))
      (pss_cons (ps_if (pt_cmpR (op_neD hu) (pe_meth0 (pe_make mM FM R5 rfl (T.gl 3 "Monoid" rfl) bM .nil pass0 (pa_cons (pe_lst (pa_cons (pe_op op_rep (pe_lst (pa_cons pe_int pa_nil)) pe_int) pa_nil)) pa_nil)) cl mu Fu R2 bu .nil pass0)
          (pe_lc (own := [("_law_letter", 5)]) (g := gName 5) (te := teLe) (by rfl) scLaw.nd (pi_str pe_str) (blkOk_by (own := [("_law_letter", 5)]) (N := NL) (sc := defScope s_law) (by decide +kernel)) (fun _ _ _ _ _ => pg_name (i := 5) scLaw.nd rfl (Or.inl rfl)) (fun _ _ _ _ _ => pts_nil) (fun _ _ _ _ _ => by exact pe_tup (pa_cons (pv 5) (pa_cons pe_str pa_nil)))) (nomark _)) (pss_one (ps_ret pe_bl)) pss_nil)
      (pss_cons (ps_if (pt_cmpR (op_neD hu) (pe_meth0 (pe_make mM FM R5 rfl (T.gl 3 "Monoid" rfl) bM .nil pass0 (pa_cons (pe_lst (pa_cons (pe_lst (pa_cons pe_int (pa_cons pe_int pa_nil))) (pa_cons (pe_lst (pa_cons pe_int (pa_cons pe_int pa_nil))) pa_nil))) pa_nil)) cl mu Fu R2 bu .nil pass0)
          (pe_lst (pa_cons (pe_tup (pa_cons pe_str (pa_cons pe_str pa_nil))) (pa_cons (pe_tup (pa_cons pe_str (pa_cons pe_str pa_nil))) pa_nil))) (nomark _)) (pss_one (ps_ret pe_bl)) pss_nil)
      (pss_cons (ps_set (i := 4) scLaw.nd rfl (.inl rfl) (pe_make mM FM R5 rfl (T.gl 3 "Monoid" rfl) bM .nil pass0 (pa_cons (pe_op op_catL
          (pe_lc (own := [("_law_number", 6)]) (g := gName 6) (te := teNu) (by rfl) scLaw.nd (pi_range1 rfl zr (pa_cons pe_int pa_nil)) (blkOk_by (own := [("_law_number", 6)]) (N := NL) (sc := defScope s_law) (by decide +kernel)) (fun _ _ _ _ _ => pg_name (i := 6) scLaw.nd rfl (Or.inl rfl)) (fun _ _ _ _ _ => pts_nil) (fun _ _ _ _ _ => by exact pe_lst (pa_cons (pe_op op_add (pv 6) pe_int) pa_nil)))
          (pe_lst (pa_cons (pe_lst (pa_cons pe_int pa_nil)) pa_nil))) pa_nil)))
      (pss_one (ps_ret (pe_cmpR (op_eqD hu) (pe_meth0 (pv 4) cl mu Fu R2 bu .nil pass0) (pe_lst (pa_cons (pe_tup (pa_cons (pe_op op_mul_str pe_str pe_int) (pa_cons (pe_op op_mul_str pe_str pe_int) pa_nil))) pa_nil)) (nomark _)))))))), ?_⟩
    refine ⟨_, rfl, (by show 1 ≤ sizeLine; decide), fun z hz => ⟨a, z, _, _, rfl, rfl, L2.Same.seq (same_upd hz) hS, SqL.of upd_same, ?_, fun l0 h0 => ?_⟩⟩
    · rw [List.length_map]
      show ns.length + 1 ≤ 16777216
      omega
    refine ⟨3, rfl, l0, _, rfl, SqL.of upd_same, fun l1 h1 => ⟨l1, rfl, ⟨_, SqL.of upd_same⟩, ?_⟩⟩
    generalize hHs : L2.upd (L2.upd (L2.upd H z _) l0 _) l1 _ = Hs
    have hTs : Tabs (Tbs K) Hs := by rw [← hHs]; exact ((hT.ext (same_upd hz)).ext (same_upd h0)).ext (same_upd h1)
    have at1 : Hs l1 = some (.lst (cutV (ns.map V.int ++ [.int 0]) none (some 3))) := by rw [← hHs]; exact upd_same
    clear hHs
    refine for_list (K := K) (a := l1) (xs := cutV (ns.map V.int ++ [.int 0]) none (some 3)) (fun i σ H' => ∃ v1 v2 v3 : Option V, σ = [some (.ref a), v1, v2, v3, none, none, none] ∧ ExtN Hs H' ∧ Tabs (Tbs K) H')
      ⟨none, none, none, rfl, ExtN.refl _, hTs⟩ (fun i σ H' _ ⟨_, _, _, _, e, _⟩ => SqL.of (e _ _ at1 (fun ps z => by cases z))) ?_ (fun σ H' ⟨v1, v2, v3, eσ, _, _⟩ => ?_)
    · rintro i y σ H1 hi ⟨v1, v2, v3, rfl, e1, hT1⟩
      obtain ⟨nn, rfl⟩ : ∃ n, y = V.int n := by
        have hm := List.mem_of_getElem? hi
        have hm2 := List.mem_of_mem_drop (List.mem_of_mem_take hm)
        rcases List.mem_append.mp hm2 with q | q
        · obtain ⟨n, _, e⟩ := List.mem_map.mp q
          exact ⟨n, e.symm⟩
        · exact ⟨0, List.mem_singleton.mp q⟩
      refine ⟨_, rfl, nn, rfl, fun l H2 nl s2 src2 => ?_⟩
      have e2 := e1.trans (ExtN.of s2)
      have nl0 : Nt Hs l := nt_ext e1 (.of nl)
      have keepN : ∀ {H3 H4 : Hp}, ExtN Hs H3 → But l H3 H4 → ExtN Hs H4 := fun e3 b4 b o e hn => b4 _ _ (fun z => by
        subst z
        obtain ⟨ps, z⟩ := nl0 o e
        exact hn ps z) (e3 _ _ e hn)
      refine ⟨3, rfl, by decide, by decide, ?_⟩
      refine for_range (lo := 0) (n := 3) (fun j σ H' => ∃ v3 : Option V, σ = [some (.ref a), some (.int nn), some (.ref l), v3, none, none, none] ∧ ExtN Hs H' ∧ Tabs (Tbs K) H' ∧ Src H' l (42 * j)) ⟨v3, rfl, e2, hT1.ext s2, src2⟩ (fun j σ H3 hj ⟨v3, eσ, e3, hT3, src3⟩ => ?_) (fun σ H3 ⟨v3, eσ, e3, hT3, src3⟩ => ?_)
      · subst eσ
        obtain ⟨mp, m1, m4, emp⟩ : ∃ mp : Nat, 1 ≤ mp ∧ mp ≤ 4 ∧ (4 : Int) - (if decide (V.int (0 + (j : Nat)) = V.int 2) = true then 1 else 0) = (mp : Nat) := by
          by_cases h : j = 2
          · exact ⟨3, by decide, by decide, by rw [h]; rfl⟩
          · refine ⟨4, by decide, by decide, ?_⟩
            rw [if_neg (fun z => h (by
              have := of_decide_eq_true z
              injection this with this
              omega))]
            rfl
        obtain ⟨ml, k1, k6, eml⟩ : ∃ ml : Nat, 1 ≤ ml ∧ ml ≤ 6 ∧ (6 : Int) - 3 * (if decide ((0 : Int) < 0 + (j : Nat)) = true then 1 else 0) = (ml : Nat) := by
          by_cases h : j = 0
          · exact ⟨6, by decide, by decide, by rw [h]; rfl⟩
          · refine ⟨3, by decide, by decide, ?_⟩
            rw [if_pos (decide_eq_true (by omega))]
            rfl
        refine ⟨_, rfl, _, rfl, _, rfl, _, rfl, rfl, .inr ⟨_, rfl, 4, _, rfl, rfl, _, rfl, _, _, rfl, rfl, .inr ⟨_, rfl, 3, _, rfl, rfl, .inl ⟨by decide, by decide⟩, 6, _, rfl, rfl, l, 42 * j, mp, ml, (by show [V.ref l, V.int ((4 : Int) - (if decide (V.int (0 + (j : Nat)) = V.int 2) = true then 1 else 0)), V.int ((6 : Int) - 3 * (if decide ((0 : Int) < 0 + (j : Nat)) = true then 1 else 0))] = _; rw [emp, eml]), src3, by omega, m1, m4, k1, k6, fun p gens n H4 b4 np M4 ne g3 n1 n4 gv src4 => ?_⟩⟩⟩
        obtain ⟨q1, q2, q3, hl3, _⟩ := id src3
        have e4 := keepN e3 b4
        have hT4 : Tabs (Tbs K) H4 := tabs_but hT3 b4 hl3 (fun ps z => by cases z) (fun φ z => by cases z)
        obtain ⟨q4, q5, q6, hl4, _⟩ := id src4
        refine ⟨l, p, 42 * j + 40, gens, n, rfl, src4, by omega, M4, ne, by omega, n1, n4, gv, fun p' gens' H5 b5 M5 ne5 g65 gv5 src5 => ?_⟩
        have e5 := keepN e4 b5
        have hT5 : Tabs (Tbs K) H5 := tabs_but hT4 b5 hl4 (fun ps z => by cases z) (fun φ z => by cases z)
        refine ⟨l, p', n, gens', rfl, M5, ne5, g65, n1, n4, gv5, hT5, fun H6 e6 hT6 => ?_⟩
        refine ⟨_, rfl, ifF rfl ?_⟩
        exact ⟨_, rfl, e5.trans e6, hT6, (src5.extN e6).up (by omega)⟩
      · subst eσ
        exact ⟨_, _, _, rfl, e3, hT3⟩
    · subst eσ
      clear at1 hTs
      -- all letters the one
      refine ⟨(by show 1 ≤ sizeLine; decide), fun z0 nz0 => ⟨z0, 6, _, rfl, rfl, upd_same, by decide, by decide, (by show 1 * 6 ≤ 16777216; decide), fun y0 ny0 => ⟨(by show 1 ≤ sizeLine; decide), fun r nr => ?_⟩⟩⟩
      have R := rows1 (K := K) (row := [0, 0, 0, 0, 0, 0]) upd_same (same_upd (o := .lst [.ref y0]) nr _ _ upd_same)
      refine fun x dx nx ndx xdx => mk2 R ac6 nx ndx xdx fun H3 dx0 t u v mo s3 hx3 => ?_
      refine ⟨x, dx0, _, rfl, hx3, rfl, x, r6, [], 6, rfl, mo, ac6.form, ac6.made, ac6.len, fun l2 lprs H4 s4 _ PT => ?_⟩
      rw [e6] at PT
      clear hx3 mo s3 s4 R nx ndx xdx nr ny0 nz0
      have dl : d6.length = 6 := by decide
      refine ⟨("abcdef" : Str), rfl, fun D nD => ?_⟩
      refine lc_it (walk_str (z := ("abcdef" : Str))) (fun t Hd => But D H4 Hd ∧ ∃ ps : List Addr, Prw Hd D ps (d6.take t)) ⟨But.upd, [], Prw.nil upd_same⟩ (fun _ _ _ _ => True.intro) (fun t y Hd H' ht ⟨bd, ps, PP⟩ ⟨e', c, hc, ey⟩ => ?_) (fun Hd ⟨bd, ps, PP⟩ => ?_)
      · subst e' ey
        have t6 : t < 6 := ht
        have c6 := letter_at t6 hc
        subst c6
        have dt : d6[t]? = some ([t], []) := by
          unfold d6
          rw [List.getElem?_map, List.getElem?_range t6]
          rfl
        refine ⟨rfl, yesT ?_⟩
        refine ⟨_, rfl, (by show 2 ≤ sizeLine; decide), fun t1 nt1 => ?_⟩
        have u1 := same_upd (o := .tup [V.str ⟨#[97 + t]⟩, V.str ("" : Str)]) nt1
        refine ⟨_, u1 _ _ PP.at', ?_, bd.trans ((But.of u1).trans But.upd), ps ++ [t1], ?_⟩
        · rw [List.length_map, PP.len, List.length_take]
          show _ < 16777216
          omega
        · rw [take_snoc dt]
          exact (PP.same u1).add (q := ([t], [])) upd_same
      · have sd := Same.but (L2.Same.refl _) nD bd
        have e7 : d6.take ("abcdef" : Str).cps.size = d6 := by decide
        rw [e7] at PP
        have PT' := PT.same sd
        refine ne_dI (Dp.lst (SqL.of PT'.at') (dpP PT'.len PT'.el)) (Dp.lst (SqL.of PP.at') (dpP PP.len PP.el)) (pairs_sh (by decide)) ⟨_, rfl, ?_⟩
        refine ifF rfl ?_
        clear PT' sd PP bd PT nD
        -- a zero
        refine ⟨(by show 2 ≤ sizeLine; decide), fun a1 n1 => ⟨(by show 2 ≤ sizeLine; decide), fun a2 n2 => ⟨(by show 2 ≤ sizeLine; decide), fun r nr => ?_⟩⟩⟩
        have w2 := same_upd (o := .lst [.ref a1, .ref a2]) nr
        have w1 := (same_upd (o := .lst [.int 1, .int 1]) n2).trans w2
        have R : RowsL K _ r r2 := ⟨[a1, a2], SqL.of upd_same, rfl, fun i b row g1 g2 => by
          match i with
          | 0 => cases g1; cases g2; exact SqL.of (w1 _ _ upd_same)
          | 1 => cases g1; cases g2; exact SqL.of (w2 _ _ upd_same)
          | i + 2 => simp at g1⟩
        refine fun x dx nx ndx xdx => mk2 R ac2 nx ndx xdx fun H9 dx0 t u v mo s3 hx3 => ?_
        refine ⟨x, dx0, _, rfl, hx3, rfl, x, r2, _, 2, rfl, mo, ac2.form, ac2.made, ac2.len, fun l3 prs3 H10 s4 _ PT => ?_⟩
        rw [e2] at PT
        clear hx3 mo s3 s4 R nx ndx xdx nr n1 n2 w1 w2
        refine ⟨(by show 2 ≤ sizeLine; decide), fun t1 nt1 => ⟨(by show 2 ≤ sizeLine; decide), fun t2 nt2 => ⟨(by show 2 ≤ sizeLine; decide), fun l4 nl4 => ?_⟩⟩⟩
        have v3 := same_upd (o := .lst [.ref t1, .ref t2]) nl4
        have v2 := (same_upd (o := .tup [V.str ("aa" : Str), V.str ("a" : Str)]) nt2).trans v3
        have v1' := (same_upd (o := .tup [V.str ("b" : Str), V.str ("a" : Str)]) nt1).trans v2
        have PP := PT.same v1'
        refine ne_dI (Dp.lst (SqL.of PP.at') (dpP PP.len PP.el)) (Dp.lst (SqL.of upd_same) (dpP (prs := [t1, t2]) (qs := [([1], [0]), ([0, 0], [0])]) rfl fun j b q g1 g2 => by
          match j with
          | 0 => cases g1; cases g2; rw [← q_b, ← q_a]; exact v2 _ _ upd_same
          | 1 => cases g1; cases g2; rw [← q_aa, ← q_a]; exact v3 _ _ upd_same
          | j + 2 => simp at g1)) (pairs_sh (by decide)) ⟨_, rfl, ?_⟩
        refine ifF rfl ?_
        generalize L2.upd (L2.upd (L2.upd H10 t1 _) t2 _) l4 _ = H11
        clear PP v1' v2 v3 nl4 nt1 nt2 PT
        -- a ring
        refine ⟨39, rfl, by decide, by decide, fun D nD => ?_⟩
        refine lc_range (lo := 0) (n := 39) (fun k Hd => But D H11 Hd ∧ ∃ as : List Addr, Hd D = some (.lst (as.map V.ref)) ∧ as.length = k ∧ ∀ (i : Nat) b, as[i]? = some b → Hd b = some (.lst [nv (i + 1)])) ⟨But.upd, [], upd_same, rfl, fun i b h => by simp at h⟩ (fun k Hd hk ⟨bd, as, hD, lA, eA⟩ => ?_) (fun Hd ⟨bd, as, hD, lA, eA⟩ => ?_)
        · refine ⟨rfl, yesT ?_⟩
          refine ⟨_, rfl, _, _, rfl, rfl, (by show 1 ≤ sizeLine; decide), fun t1 nt1 => ?_⟩
          have ek : ((0 : Int) + (k : Nat)) + 1 = ((k + 1 : Nat) : Int) := by omega
          have u1 := same_upd (o := .lst [V.int ((0 : Int) + (k : Nat) + 1)]) nt1
          refine ⟨_, u1 _ _ hD, by rw [List.length_map, lA]; show k < 16777216; omega, bd.trans ((But.of u1).trans But.upd), as ++ [t1], by rw [upd_same]; simp, by simp [lA], fun i b h => ?_⟩
          have f : L2.upd Hd t1 (.lst [V.int ((0 : Int) + (k : Nat) + 1)]) b = some (.lst [nv (i + 1)]) := by
            rcases Mon.snoc_cases h with h | ⟨e1, rfl⟩
            · exact u1 _ _ (eA i b h)
            · rw [e1, lA, upd_same, ek]
          have nb : b ≠ D := fun z => by
            rcases Mon.snoc_cases h with h | ⟨e1, rfl⟩
            · have g := eA i b h
              rw [z, hD] at g
              injection g with g
              injection g with g
              cases as with
              | nil => simp at h
              | cons a0 r0 => injection g with g; cases g
            · rw [z] at nt1
              rw [nt1] at hD
              cases hD
          rw [upd_ne nb]
          exact f
        · refine ⟨(by show 1 ≤ sizeLine; decide), fun s1 ns1 => ⟨(by show 1 ≤ sizeLine; decide), fun s2' ns2 => ?_⟩⟩
          have v1' := same_upd (o := .lst [V.int 7]) ns1
          have v2' := same_upd (o := .lst [V.ref s1]) ns2
          refine ⟨D, s2', _, _, rfl, rfl, SqL.of (v2' _ _ (v1' _ _ hD)), SqL.of upd_same, ?_, fun r nr => ?_⟩
          · rw [List.length_map, lA]
            show 39 + 1 ≤ 16777216
            decide
          have v3' := same_upd (o := .lst (as.map V.ref ++ [V.ref s1])) nr
          have R : RowsL K (L2.upd (L2.upd (L2.upd Hd s1 (.lst [V.int 7])) s2' (.lst [V.ref s1])) r (.lst (as.map V.ref ++ [V.ref s1]))) r rR := ⟨as ++ [s1], SqL.of (by rw [upd_same]; simp), by simp [lA, rR], fun i b row g1 g2 => by
            rcases Mon.snoc_cases g1 with g1 | ⟨e1, rfl⟩
            · have il : i < 39 := by have := get_lt g1; omega
              have er : rR[i]? = some [i + 1] := by
                unfold rR
                rw [List.getElem?_append_left (by simpa using il), List.getElem?_map, List.getElem?_range il]
                rfl
              rw [er] at g2
              cases g2
              exact SqL.of (v3' _ _ (v2' _ _ (v1' _ _ (eA i b g1))))
            · have er : rR[i]? = some [7] := by
                rw [e1, lA]
                decide
              rw [er] at g2
              cases g2
              exact SqL.of (v3' _ _ (v2' _ _ upd_same))⟩
          refine fun x dx nx ndx xdx => mk2 R acR nx ndx xdx fun H12 dx0 t u v mo s3 hx3 => ?_
          refine ⟨_, rfl, x, dx0, _, rfl, hx3, rfl, x, rR, mR, 1, rfl, mo, acR.form, acR.made, acR.len, fun l5 prs5 H13 s4 _ PT => ?_⟩
          rw [eR] at PT
          refine ⟨[97], 40, q_tx, rfl, by decide, by decide, by decide, by decide, [97], 7, q_tx, rfl, by decide, by decide, by decide, by decide, ?_⟩
          rw [q_40, q_7]
          refine ⟨(by show 2 ≤ sizeLine; decide), fun t1 nt1 => ⟨(by show 1 ≤ sizeLine; decide), fun l6 nl6 => ?_⟩⟩
          have w2 := same_upd (o := .lst [V.ref t1]) nl6
          have w1 := (same_upd (o := .tup [wv (List.replicate 40 0), wv (List.replicate 7 0)]) nt1).trans w2
          have PP := PT.same w1
          exact eq_dI (Dp.lst (SqL.of PP.at') (dpP PP.len PP.el)) (Dp.lst (SqL.of upd_same) (dpP (prs := [t1]) (qs := [(List.replicate 40 0, List.replicate 7 0)]) rfl fun j b q g1 g2 => by
            match j with
            | 0 => cases g1; cases g2; exact w2 _ _ upd_same
            | j + 1 => simp at g1)) (pairs_sh (by decide)) (fin _)
end
end K18

set_option Elab.async false
set_option linter.all false
set_option maxRecDepth 100000
set_option maxHeartbeats 0
namespace K18
open PySem PySem.Spec PyProof.Rows L2
abbrev R : PySem.W.OpenRow := PySem.W.OpenLaw.row PySem.Challenge.rw_letterfolds_k18_rules_of_a_monoid
abbrev vw : Program := PySem.W.view R.prog [31]
def as : List Addr := List.range 1600
abbrev hk : PySem.W.Hook := Lf.hookR as fa fn tf ex
def ob (s : PySem.W.SharedT) : He.AlD × Bool := Lf.obsR as fa fn tf ex (HandSHeadRun.getT s)
theorem ob_eq (s : PySem.W.SharedT) : ob s = hk.obs s.abs := Lf.obsR_eq (HandSHeadRun.getT_eq s)
theorem runA (w : World) (os : OsState) : (Lf.endOf R 20000 w os).map (Lf.looksOf R w) = some true := by kernel_rfl
theorem runB (w : World) (os : OsState) : (Lf.endOf R 20000 w os).map (Lf.viewOf R vw loose) = some (PySem.W.openGood vw loose) := by kernel_rfl
theorem runC (w : World) (os : OsState) : (Lf.endOf R 20000 w os).map ob = some (hk.val w) := by kernel_rfl
theorem run (w : World) : HandSHeadRun.RunEq R vw hk ob 20000 loose w := Lf.run_three (runA w) (runB w) (runC w)
end K18

set_option Elab.async false
set_option linter.all false
set_option maxRecDepth 100000
set_option maxHeartbeats 4000000
/-! Functions that are promised only where no repr is under way; repr of a list of ints. -/
namespace Lf
open PySem PySem.Spec PyProof.Rows L2
/-- a promise of calls from where no repr is under way -/
structure FnG (P : Program) (w : World) (K : PySem.W.Frag) (mg : Str → Option Value) (base : Heap) (CX : CXT) (k : Nat) (f : Addr) (fd : FuncData) (ps : List Str) (sp : Sp) : Prop where
  len : ∀ vs H Q E, sp vs H Q E → vs.length = ps.length
  run : ∀ (A : Around) (outer : List Env) (s : Shared) (H : Hp) (args : Args) (us : List Value) (vs : List V) (Q : VK) (E : XK), A.guards = some [] → Room k A → Env0 P w K mg base A outer s H → BindsTo s fd args (ps.zip us) → Vals vs us → sp vs H Q E →
    codeAny (model P w) A (.call (.ref f) args) (CR CX outer P w H s Q E) s
section
variable {CX : CXT} {P : Program} {w : World} {K : PySem.W.Frag} {mg : Str → Option Value} {base : Heap} {x qual : Str} {params : Arguments} {body : List Stmt} {scope : Scope} {f : Addr} {fd : FuncData}
theorem okG {N ps : List Str} {k : Nat} {sp : Sp} (F : FunD K x qual params body scope [] [] f fd) (S : FnScope N ps scope) (len : ∀ vs H Q E, sp vs H Q E → vs.length = ps.length)
    (hbody : ∀ (cdv : Value) (A : Around) (outer : List Env) (s : Shared) (H : Hp) (vs : List V) (Q : VK) (E : XK), A.guards = some [] → Room k (A.deeper (envOfC qual scope s.heap.objs.size f cdv)) → sp vs H Q E →
      ∃ t, PSs (cxOf CX P w K mg base N qual scope f cdv A outer s H E) body t ∧ t { nx := fun _ H' => Q .non H', rt := Q } (L2.start N vs) H) : FnG P w K mg base CX (k + 1) f fd ps sp := by
  obtain ⟨oc, od, dV, kV, doc, pm, an, cdv, ct, osl, rfl, lk, hcd, _, _⟩ := F.ex
  refine ⟨len, fun A outer s H args us vs Q E hgd hr e0 hb r hsp => ?_⟩
  have hl := len _ _ _ _ hsp
  have KX : K.In s.heap := e0.mod.kin.keeps fun b o e => (e0.bs b o e).1
  have hk : ∀ y ∈ ps.zip us, scope.names.lookup y.1 = some .local ∨ (scope.names.lookup y.1 = some .cell ∧ ((cellsFrom (s.heap.objs.size + 1) scope.names []).lookup y.1).isSome = true) := fun y hy =>
    (S.par y.1 (List.of_mem_zip hy).1).imp id fun q => ⟨q, PySem.W.cellsFrom_some _ _ _ (.inl q)⟩
  refine codeAny_call_function hr.depth (KX _ _ lk) rfl S.co S.gen rfl (PySem.W.codeRec_of KX hcd) (hb _ _ _ _ (wpAny_newFunctionEnv_cells S.kind hk fun env he s1 g => ?_))
  subst he
  refine ⟨(e0.mod.nolimit.keeps fun b o e => (e0.bs b o e).1).keeps g.toInCall.keep, codeAny_func ?_⟩
  obtain ⟨t, ht, hq⟩ := hbody cdv A outer s H vs Q E hgd (hr.deeper _) hsp
  refine wpAny_mono (ht.run [] s1 (L2.start N vs) H _ (inv_start S hr.hd e0 hl r g) hq) (fun fl s' hs => ?_) fun _ _ hs => hs
  cases fl with
  | brk => exact hs.elim fun _ z => z.elim fun _ z => False.elim z.2
  | cont => exact hs.elim fun _ z => z.elim fun _ z => False.elim z.2
  | next =>
    obtain ⟨_, H', J, q⟩ := hs
    exact ⟨V.non, H', J.os, J.bare, J.base, J.hok, rfl, q⟩
  | ret u =>
    obtain ⟨v, _, H', J, rv, q⟩ := hs
    exact ⟨v, H', J.os, J.bare, J.base, J.hok, rv, q⟩
end
/-- a def by its name -/
structure DefG (P : Program) (w : World) (K : PySem.W.Frag) (mg : Str → Option Value) (base : Heap) (CX : CXT) (k : Nat) (x : Str) (ps : List Str) (sp : Sp) : Prop where
  ex : ∃ f fd, mg x = some (.ref f) ∧ PySem.W.keepIn K (.ref f) = true ∧ FnG P w K mg base CX k f fd ps sp ∧ Binds K fd ps []
section
variable {X : Cx} {CX : CXT} {k : Nat} {x : Str} {ps : List Str} {sp : Sp} {E : XK} {e : Expr} {es : List Expr} {t : TA} {p pos : Pos}
theorem pe_defG (D : DefG X.prog X.w X.K X.mg X.base CX k x ps sp) (hgd : X.A.guards = some []) (hr : Room k X.A) (hx : Passes CX X E) (hg : Gl X x) (ha : PA X (e :: es) t)
    (hdb : (x == ("__debug__" : Str)) = false := by decide +kernel) (he : starEach (e :: es) X.env = (false, eval e X.env) :: starEach es X.env := by rfl)
    (hpl : (backTo pos (starEach es X.env)).any (·.1) = false := by rfl) : PE X (.Call (.Name x p) (e :: es) [] pos) (fun σ H Q => t σ H fun vs H1 => sp vs H1 Q E) := by
  obtain ⟨f, fd, g, kp, F, b⟩ := D.ex
  refine ⟨fun pins s σ H Q I h => wpAny_Call_Name_kw (ld_glob I hg g ?_ hdb)⟩
  refine PySem.W.callWith_K (h₀ := X.base) I.ok.mod.kin kp (thn (ha.run pos pins s σ H _ I h) fun us s1 ⟨vs, H1, I1, r, q⟩ => ⟨I1.kIn, ?_⟩) he hpl
  have b' := b s1 us I1.kIn (by rw [List.append_nil, ← r.length]; exact F.len _ _ _ _ q)
  rw [List.append_nil] at b'
  refine wpAny_call (codeAny_mono (F.run X.A X.stack s1 H1 ⟨us, []⟩ us vs Q E hgd hr I1.env0 b' r q) fun r' s' hq => ?_)
  cases r' with
  | error e => exact hx pins σ H1 s1 e s' I1 hq
  | ok fl =>
    cases fl with
    | ret u => exact I1.after hq
    | next => exact False.elim hq
    | brk => exact False.elim hq
    | cont => exact False.elim hq
end
/-! ### repr of a list of ints -/
abbrev reprL (ns : List Int) : Str := (PyData.list (ns.map PyData.int)).shown
theorem reads_ints {h : Heap} : ∀ {ns : List Int} {us : List Value}, Vals (ns.map V.int) us → ReadsAll h us (ns.map PyData.int) []
  | [], _, r => by
    rw [List.map_nil] at r
    cases r
    exact .nil
  | n :: ns, _, r => by
    rw [List.map_cons] at r
    cases r with
    | cons a b =>
      obtain ⟨t, rfl⟩ := (show ∃ t, _ = Value.int n t from a)
      exact .cons (.int n t) (reads_ints b)
theorem ints_noDict : ∀ (ns : List Int), PyData.hasDictAll (ns.map PyData.int) = false
  | [] => rfl
  | n :: ns => by rw [List.map_cons, PyData.hasDictAll, PyData.hasDict, ints_noDict ns]; rfl
theorem ints_depth : ∀ (ns : List Int), PyData.depthAll (ns.map PyData.int) = 0
  | [] => rfl
  | n :: ns => by rw [List.map_cons, PyData.depthAll, PyData.depth, ints_depth ns]; rfl
theorem call_reprInts {X : Cx} (hg : X.A.guards = some []) (hu : X.A.units + 9 < cLine) : CallR X (.builtin "repr") (fun xs H Q => ∃ p ns, xs = [.ref p] ∧ SqL X.K H p (ns.map V.int) ∧ (PyData.list (ns.map PyData.int)).showable = true ∧ (reprL ns).length ≤ sizeLine ∧ Q (.str (reprL ns)) H) := by
  intro pins s σ H xs us Q I r h
  obtain ⟨p, ns, rfl, hq, sh, hz, q⟩ := h
  obtain ⟨u, rfl, e⟩ := vals1 r
  cases e
  obtain ⟨its, rv, ⟨o, n, e1, e2, e3, e4⟩, _⟩ := I.list hq
  refine repr_of_reads' (h₀ := s.heap) (.list e1 e2 e4 (by rw [List.toList_toArray]; exact reads_ints rv)) sh (fun z => ?_) hg ?_ (fun _ _ z => z) (fun h' u tk hk => ?_) hz
  · rw [PyData.hasDict, ints_noDict] at z
    cases z
  · rw [PyData.depth, ints_depth]
    omega
  · exact ⟨.str (reprL ns), H, I.kept hk, ⟨u, rfl⟩, q⟩
theorem small_text : ∀ n : Nat, n < 300 → ((PyData.int (n : Nat)).shown).length ≤ 3 := by decide +kernel
theorem small_show : ∀ n : Nat, n < 300 → (PyData.int (n : Nat)).showable = true := by decide +kernel
theorem repr_small : ∀ {ns : List Nat}, (∀ n ∈ ns, n < 300) → PyData.showableAll ((ns.map fun n => ((n : Nat) : Int)).map PyData.int) = true ∧ ((PyData.shownAll ((ns.map fun n => ((n : Nat) : Int)).map PyData.int)).map (·.length)).sum ≤ 3 * ns.length ∧ (PyData.shownAll ((ns.map fun n => ((n : Nat) : Int)).map PyData.int)).length = ns.length
  | [], _ => ⟨rfl, Nat.le_refl _, rfl⟩
  | n :: ns, h => by
    obtain ⟨a, b, c⟩ := repr_small (ns := ns) fun m hm => h m (List.mem_cons_of_mem _ hm)
    have h1 := small_text n (h n List.mem_cons_self)
    have h2 := small_show n (h n List.mem_cons_self)
    rw [List.map_cons, List.map_cons]
    refine ⟨?_, ?_, ?_⟩
    · rw [PyData.showableAll, h2, a]
      rfl
    · rw [PyData.shownAll, List.map_cons, List.sum_cons, List.length_cons]
      omega
    · rw [PyData.shownAll, List.length_cons, c, List.length_cons]
/-- repr of numbers below 300 -/
theorem reprOk {ns : List Nat} (h : ∀ n ∈ ns, n < 300) (l : ns.length ≤ 100000) : (PyData.list ((ns.map fun n => ((n : Nat) : Int)).map PyData.int)).showable = true ∧ (reprL (ns.map fun n => ((n : Nat) : Int))).length ≤ sizeLine := by
  obtain ⟨a, b, c⟩ := repr_small h
  refine ⟨by rw [PyData.showable]; exact a, ?_⟩
  have := listText_len_le (PyData.shownAll ((ns.map fun n => ((n : Nat) : Int)).map PyData.int))
  unfold reprL
  rw [PyData.shown, sizeLine_eq]
  omega
end Lf

set_option Elab.async false
set_option linter.all false
set_option maxRecDepth 100000
set_option maxHeartbeats 4000000
/-! The end for a law that is promised only where no repr is under way. -/
namespace Lf
open PySem PySem.Spec PyProof.Rows L2
section
variable {P : Program} {w : World} {K : PySem.W.Frag} {mg mb : Str → Option Value} {CX : CXT} {k : Nat} {fa a : Addr} {fd : FuncData} {x : Str} {sp : Sp} {s₁ : Shared} {vs : List Value} {ns : List Int}
/-- the caller's world, with at most the script tracked -/
theorem env_law {H : Hp} (KX : K.In s₁.heap) (hns : s₁.heap.Ns mainGlobals mg) (hb : s₁.heap.Ns builtinsNs mb) (hbb : ∀ x : Str, x ≠ "__name__" → mb x = bootBuiltins x) (hlim : s₁.heap.NoLimit) (hg : s₁.gens = #[])
    (ha : s₁.heap.get? a = some { cls := .type "list", data := .seq vs.toArray }) (hok : HOk P w H s₁.heap) (hA : ∀ b, H b ≠ none → b = a ∧ K.lookup a = none) :
    K.In (hidT s₁.heap H) ∧ (hidT s₁.heap H).Ns mainGlobals mg ∧ Env0 P w K mg (hidT s₁.heap H) callerA [] s₁ H := by
  have free : ∀ {b : Addr} {o : Obj}, s₁.heap.get? b = some o → o.data ≠ .seq vs.toArray → H b = none := fun {b o} e d => by
    cases q : H b with
    | none => rfl
    | some u =>
      obtain ⟨rfl, _⟩ := hA b (by rw [q]; simp)
      rw [ha] at e
      cases e
      exact absurd rfl d
  have names : ∀ {b : Addr} {m : Str → Option Value}, s₁.heap.Ns b m → (hidT s₁.heap H).Ns b m := fun {b m} h => by
    obtain ⟨o, es, ep, e, d, r⟩ := h
    exact ⟨o, es, ep, hidT_get e (free e (by rw [d]; simp)), d, r⟩
  have kin : K.In (hidT s₁.heap H) := fun b o e => hidT_get (KX b o e) (by
    cases q : H b with
    | none => rfl
    | some u =>
      obtain ⟨rfl, z⟩ := hA b (by rw [q]; simp)
      rw [z] at e
      cases e)
  obtain ⟨mc, l1, l2⟩ := hlim
  exact ⟨kin, names hns, rfl, ⟨kin, names hns, ⟨mb, names hb, hbb⟩, mc, names l1, l2⟩, fun b o e => of_hidT e, Nat.le_of_eq (hidT_size _ _), trivial, fun b hb => absurd (show b ∈ ([] : List Addr) from hb) (by simp), hok, .of_eq hg⟩
theorem law_callG (KX : K.In s₁.heap) (hns : s₁.heap.Ns mainGlobals mg) (hb : s₁.heap.Ns builtinsNs mb) (hbb : ∀ x : Str, x ≠ "__name__" → mb x = bootBuiltins x) (hlim : s₁.heap.NoLimit) (hg : s₁.gens = #[])
    (ha : s₁.heap.get? a = some { cls := .type "list", data := .seq vs.toArray }) (hi : IntsAre vs ns) (hl : ns.length ≤ sizeLine) (hr : Room k callerA)
    (F : ∀ base : Heap, K.In base → base.Ns mainGlobals mg → FnG P w K mg base CX k fa fd [x] sp) (hbind : ∀ (s : Shared) (u : Value), BindsTo s fd ⟨[u], []⟩ [(x, u)])
    (hsp : ∀ H : Hp, Only H → SqL K H a (ns.map V.int) → sp [.ref a] H (fun v _ => v = .bl true) fun _ _ _ => False)
    (hCX : ∀ H e s', CX [] H s₁ (fun _ _ _ => False) e s' → False) :
    codeAny (model P w) callerA (.call (.ref fa) ⟨[.ref a], []⟩) (fun r s' => r = .ok (.ret (.bool true)) ∧ OldK s₁.heap s'.heap ∧ s'.os = s₁.os ∧ AllBare s'.gens) s₁ := by
  obtain ⟨H, hO, hS, hok, hA⟩ : ∃ H : Hp, Only H ∧ SqL K H a (ns.map V.int) ∧ HOk P w H s₁.heap ∧ ∀ b, H b ≠ none → b = a ∧ K.lookup a = none := by
    have rv := vals_ints hi
    cases hk : K.lookup a with
    | some o =>
      have e := KX a o hk
      rw [ha] at e
      cases e
      exact ⟨fun _ => none, fun _ => .inl rfl, .inr ⟨_, vs.toArray, _, hk, rfl, rfl, rfl, by rw [List.size_toArray, hi.length]; exact hl, by simpa using rv⟩, (fun b u z => by cases (show (none : Option HO) = some u from z)), fun b z => absurd rfl z⟩
    | none =>
      refine ⟨L2.upd (fun _ => none) a (.frz { cls := .type "list", data := .seq vs.toArray } (.lst (ns.map V.int))), fun b => ?_, .inl (.inr ⟨_, upd_same⟩), fun b u z => ?_, fun b z => ?_⟩
      · by_cases e : b = a
        · subst e
          exact .inr ⟨_, _, upd_same⟩
        · exact .inl (upd_ne e)
      · by_cases e : b = a
        · subst e
          rw [upd_same] at z
          cases z
          exact ⟨ha, by rw [List.length_map]; exact hl, vs, _, rv, ha⟩
        · rw [upd_ne e] at z
          cases z
      · by_cases e : b = a
        · exact ⟨e, rfl⟩
        · exact absurd (upd_ne e) z
  obtain ⟨kin, nm, e0⟩ := env_law KX hns hb hbb hlim hg ha hok hA
  refine codeAny_mono ((F _ kin nm).run callerA [] s₁ H ⟨[.ref a], []⟩ [.ref a] [.ref a] _ _ rfl hr e0 (hbind s₁ (.ref a)) (.cons rfl .nil) (hsp H hO hS)) fun r s' h => ?_
  cases r with
  | error e => exact (hCX H e s' h).elim
  | ok fl =>
    cases fl with
    | next => exact False.elim h
    | brk => exact False.elim h
    | cont => exact False.elim h
    | ret u =>
      obtain ⟨v, H', os, bare, un, hok', r', q⟩ := h
      cases (show v = .bl true from q)
      cases (show u = Value.bool true from r')
      refine ⟨rfl, OldK.of_keep fun b o e => ?_, os, bare⟩
      cases q : H b with
      | none => exact un.keep b o e q (by intro z; exact absurd (show b ∈ ([] : List Addr) from z) (by simp)) (by simp)
      | some u =>
        rcases hO b with z | ⟨ob, xs, z⟩
        · rw [q] at z
          cases z
        · have e1 := (hok b _ z).1
          rw [e] at e1
          cases e1
          exact (hok' b _ (un.frzs b _ _ z)).1
end
theorem walk_ofG {l : PySem.W.OpenLaw} {n k : Nat} {q : Program} {loose : List Str} {XP : (Str → Option Value) → Heap → Prop} {YP : World → Heap → Prop} {d : DefRec} {CX : CXT} {x : Str}
    (hn : l.most = some n) (hn2 : n ≤ sizeLine) (hdf : d.params.defaults = []) (hr : Room k callerA)
    (F : ∀ (w : World) (mg : Str → Option Value) (fa : Addr) (h : Heap), YP w h → h.Ns mainGlobals mg → mg d.name = some (.ref fa) →
      ∃ (K : PySem.W.Frag) (fd : FuncData) (sp : Sp), K.In h ∧ (∀ (s : Shared) (u : Value), BindsTo s fd ⟨[u], []⟩ [(x, u)]) ∧
        (∀ (H : Hp) (a : Addr) (ns : List Int), ns.length ≤ n → Only H → SqL K H a (ns.map V.int) → sp [.ref a] H (fun v _ => v = .bl true) fun _ _ _ => False) ∧
        ∀ base : Heap, K.In base → base.Ns mainGlobals mg → FnG l.prog w K mg base CX k fa fd [x] sp)
    (hCX : ∀ (H : Hp) (s : Shared) (e : Value) (s' : Shared), CX [] H s (fun _ _ _ => False) e s' → False) :
    PySem.W.WalkO q loose XP YP l.row.toRowW d [] (fun f vs => PySem.call f vs) := by
  refine Att.attach_call hn hdf fun w s₀ s₁ mg mb fa o pm cd doc a vs ns G Y ho hd hcd hmg hobj hints hlen hg => ?_
  obtain ⟨K, fd, sp, KX, hb, hsp, hF⟩ := F w mg fa _ Y G.T.g hmg
  exact law_callG KX G.T.g G.T.b G.T.builtins G.T.nolimit hg hobj hints (Nat.le_trans hlen hn2) hr hF hb (fun H hO hS => hsp H a ns hlen hO hS) fun H e s' => hCX H s₁ e s'
end Lf

set_option Elab.async false
set_option linter.all false
set_option maxRecDepth 100000
set_option maxHeartbeats 8000000
namespace K18
open PySem PySem.Spec PyProof.Rows L2 Lf
theorem facts {P : Program} {w : World} {K : PySem.W.Frag} {h : Heap} {mg : Str → Option Value} {f : Addr} (X : K.In h) (G : h.Ns mainGlobals mg) (hfa : mg ("law" : Str) = some (.ref f)) (c : He.SaysD fa fn K) (m : ex K = true) :
    ∃ fd : FuncData, (∀ (s : Shared) (v : Value), BindsTo s fd ⟨[v], []⟩ [("_law_script", v)]) ∧ ∀ base : Heap, K.In base → base.Ns mainGlobals mg → LamX.TabB base mg (He.cT K ("_law_due", none)).1 (He.cT K ("_law_due", none)).2 → FnOk P w K mg base CX0 7 f fd ["_law_script"] (spLaw K) := by
  obtain ⟨fd_is_number, F_is_number⟩ := c.def_ 0 (d := d_is_number) rfl
  obtain ⟨fd_is_between, F_is_between⟩ := c.def_ 1 (d := d_is_between) rfl
  obtain ⟨fd_is_sequence, F_is_sequence⟩ := c.def_ 2 (d := d_is_sequence) rfl
  obtain ⟨fd_Monoid_init, F_Monoid_init⟩ := c.def_ 5 (d := d_Monoid_init) rfl
  obtain ⟨fd_Monoid_words, F_Monoid_words⟩ := c.def_ 8 (d := d_Monoid_words) rfl
  obtain ⟨fd_Monoid_is_word_of, F_Monoid_is_word_of⟩ := c.def_ 13 (d := d_Monoid_is_word_of) rfl
  obtain ⟨fd_Monoid_rules, F_Monoid_rules⟩ := c.def_ 11 (d := d_Monoid_rules) rfl
  obtain ⟨fd_check_form, F_check_form⟩ := c.def_ 14 (d := d_check_form) rfl
  obtain ⟨fd_made_by, F_made_by⟩ := c.def_ 15 (d := d_made_by) rfl
  obtain ⟨fd_left_table, F_left_table⟩ := c.def_ 16 (d := d_left_table) rfl
  obtain ⟨fd_check_products, F_check_products⟩ := c.def_ 17 (d := d_check_products) rfl
  obtain ⟨fd_rests, F_rests⟩ := c.def_ 20 (d := d_rests) rfl
  obtain ⟨fd_L_source, F_L_source⟩ := c.def_ 21 (d := d_L_source) rfl
  obtain ⟨fd_L_draw, F_L_draw⟩ := c.def_ 22 (d := d_L_draw) rfl
  obtain ⟨fd_L_maps, F_L_maps⟩ := c.def_ 24 (d := d_L_maps) rfl
  obtain ⟨fd_L_table, F_L_table⟩ := c.def_ 25 (d := d_L_table) rfl
  obtain ⟨fd_L_due, F_L_due⟩ := c.def_ 26 (d := d_L_due) rfl
  obtain ⟨fd_L_parts, F_L_parts⟩ := c.def_ 27 (d := d_L_parts) rfl
  obtain ⟨fd_L_by_words, F_L_by_words⟩ := c.def_ 28 (d := d_L_by_words) rfl
  obtain ⟨fd_L_right, F_L_right⟩ := c.def_ 29 (d := d_L_right) rfl
  obtain ⟨fd_L_mixed, F_L_mixed⟩ := c.def_ 30 (d := d_L_mixed) rfl
  obtain ⟨fd, F⟩ := c.def_ 31 (d := d_law) rfl
  have gl : ∀ (i : Nat) (x : Str), fa[i]? = some (.glo x) → mg x = some (.ref (He.ga K x)) := fun i x e => He.glo_ok X G (c.fact i e)
  have fr : ∀ (i : Nat) (x : Str), fa[i]? = some (.free x) → mg x = none := fun i x e => He.free_ok X G (c.fact i e)
  have it : ∀ (i : Nat) (x : Str) (v : Int), fa[i]? = some (.int x v) → ∃ t, mg x = some (.int v t) := fun i x v e => He.int_ok X G (c.fact i e)
  have st : ∀ (i : Nat) (x v : Str), fa[i]? = some (.str x v) → ∃ t, mg x = some (.str v t) := fun i x v e => He.str_ok X G (c.fact i e)
  have e := hfa.symm.trans (gl 24 "law" rfl)
  cases e
  have b := FunD.bindsA (ps := ["_law_script"]) F fun _ _ _ _ _ _ us hl => match us, hl with | [_], _ => rfl
  refine ⟨fd, fun s v => b s [v] rfl, fun base _ _ TB => ?_⟩
  have T : Txt P w K mg base := ⟨c, m, gl, fr, it, st⟩
  have z_ValueError : mg "ValueError" = none := T.fr 27 "ValueError" rfl
  have z_abs : mg "abs" = none := T.fr 28 "abs" rfl
  have z_all : mg "all" = none := T.fr 29 "all" rfl
  have z_bool : mg "bool" = none := T.fr 30 "bool" rfl
  have z_dict : mg "dict" = none := T.fr 31 "dict" rfl
  have z_enumerate : mg "enumerate" = none := T.fr 32 "enumerate" rfl
  have z_int : mg "int" = none := T.fr 33 "int" rfl
  have z_isinstance : mg "isinstance" = none := T.fr 34 "isinstance" rfl
  have z_len : mg "len" = none := T.fr 35 "len" rfl
  have z_list : mg "list" = none := T.fr 36 "list" rfl
  have z_range : mg "range" = none := T.fr 37 "range" rfl
  have z_sorted : mg "sorted" = none := T.fr 38 "sorted" rfl
  have z_tuple : mg "tuple" = none := T.fr 39 "tuple" rfl
  have z_zip : mg "zip" = none := T.fr 40 "zip" rfl
  obtain ⟨t_LETTERS, g_LETTERS⟩ := T.st 26 "LETTERS" "abcdef" rfl
  have D_is_number : Def P w K mg base CX0 1 "is_number" ["thing"] spNum := ⟨_, fd_is_number, T.gl 4 "is_number" rfl, F_is_number.kp, ok_num F_is_number z_isinstance z_int z_bool, F_is_number.bindsN fun _ _ _ _ _ _ us hl => match us, hl with | [_], _ => rfl⟩
  have D_is_between : Def P w K mg base CX0 2 "is_between" ["thing", "least", "most"] spBtw := ⟨_, fd_is_between, T.gl 5 "is_between" rfl, F_is_between.kp, ok_btw F_is_between D_is_number, F_is_between.bindsN fun _ _ _ _ _ _ us hl => match us, hl with | [_, _, _], _ => rfl⟩
  have D_is_sequence : Def P w K mg base CX0 1 "is_sequence" ["thing", "least", "most"] (spSeq K) := ⟨_, fd_is_sequence, T.gl 6 "is_sequence" rfl, F_is_sequence.kp, ok_seq F_is_sequence z_isinstance z_list z_tuple z_len, F_is_sequence.bindsN fun _ _ _ _ _ _ us hl => match us, hl with | [_, _, _], _ => rfl⟩
  have D_check_form : Def P w K mg base CX0 3 "_check_form" ["right"] (spForm K) := ⟨_, fd_check_form, T.gl 7 "_check_form" rfl, F_check_form.kp, ok_form F_check_form T D_is_sequence D_is_between, F_check_form.bindsN fun _ _ _ _ _ _ us hl => match us, hl with | [_], _ => rfl⟩
  have D_made_by : Def P w K mg base CX0 1 "_made_by" ["right"] (spMade K) := ⟨_, fd_made_by, T.gl 8 "_made_by" rfl, F_made_by.kp, ok_made F_made_by T, F_made_by.bindsN fun _ _ _ _ _ _ us hl => match us, hl with | [_], _ => rfl⟩
  have D_left_table : Def P w K mg base CX0 1 "_left_table" ["right", "made"] (spLeft K) := ⟨_, fd_left_table, T.gl 9 "_left_table" rfl, F_left_table.kp, ok_left F_left_table T, F_left_table.bindsN fun _ _ _ _ _ _ us hl => match us, hl with | [_, _], _ => rfl⟩
  have D_check_products : Def P w K mg base CX0 1 "_check_products" ["right", "left"] (spProds K) := ⟨_, fd_check_products, T.gl 10 "_check_products" rfl, F_check_products.kp, ok_prods F_check_products T, F_check_products.bindsN fun _ _ _ _ _ _ us hl => match us, hl with | [_, _], _ => rfl⟩
  have mM : L2.Mk K (He.ga K "Monoid") (He.ma K (He.ga K "Monoid") "__init__") := He.mkr_ok (T.d.fact 42 (f := .mkr "Monoid") rfl)
  have FM := ok_mon F_Monoid_init T D_check_form D_made_by D_left_table D_check_products
  have bM : L2.Binds K fd_Monoid_init ["self", "right"] [] := F_Monoid_init.bindsN fun _ _ _ _ _ _ us hl => match us, hl with | [_, _], _ => rfl
  have D_rests : Def P w K mg base CX0 1 "_rests" ["right", "made"] (spRests K) := ⟨_, fd_rests, T.gl 13 "_rests" rfl, F_rests.kp, ok_rests F_rests, F_rests.bindsN fun _ _ _ _ _ _ us hl => match us, hl with | [_, _], _ => rfl⟩
  have M_words : DefM P w K mg base CX0 1 "words" ["self"] (spWords K) := ⟨_, fd_Monoid_words, He.meth_ok (T.d.fact 45 (f := .meth "Monoid" "words") rfl), ok_words F_Monoid_words T, F_Monoid_words.bindsN fun _ _ _ _ _ _ us hl => match us, hl with | [_], _ => rfl⟩
  have M_is_word_of : DefM P w K mg base CX0 1 "_is_word_of" ["self", "number", "letter"] (spIsW K) := ⟨_, fd_Monoid_is_word_of, He.meth_ok (T.d.fact 50 (f := .meth "Monoid" "_is_word_of") rfl), ok_isw F_Monoid_is_word_of T, F_Monoid_is_word_of.bindsN fun _ _ _ _ _ _ us hl => match us, hl with | [_, _, _], _ => rfl⟩
  have M_rules : DefM P w K mg base CX0 2 "rules" ["self"] (spRules K) := ⟨_, fd_Monoid_rules, He.meth_ok (T.d.fact 48 (f := .meth "Monoid" "rules") rfl), ok_rules F_Monoid_rules T D_rests M_words M_is_word_of, F_Monoid_rules.bindsN fun _ _ _ _ _ _ us hl => match us, hl with | [_], _ => rfl⟩
  have D_L_source : Def P w K mg base CX0 1 "_law_source" ["_law_cell"] spSource := ⟨_, fd_L_source, T.gl 14 "_law_source" rfl, F_L_source.kp, ok_source F_L_source z_abs z_int, F_L_source.bindsN fun _ _ _ _ _ _ us hl => match us, hl with | [_], _ => rfl⟩
  have D_L_draw : Def P w K mg base CX0 1 "_law_draw" ["_law_source_here", "_law_many"] spDraw := ⟨_, fd_L_draw, T.gl 15 "_law_draw" rfl, F_L_draw.kp, ok_draw F_L_draw z_int, F_L_draw.bindsN fun _ _ _ _ _ _ us hl => match us, hl with | [_, _], _ => rfl⟩
  have D_L_maps : Def P w K mg base CX0 2 "_law_maps" ["_law_source_here", "_law_most_points", "_law_most_letters"] spMaps := ⟨_, fd_L_maps, T.gl 17 "_law_maps" rfl, F_L_maps.kp, ok_maps F_L_maps z_range z_tuple D_L_draw, F_L_maps.bindsN fun _ _ _ _ _ _ us hl => match us, hl with | [_, _, _], _ => rfl⟩
  have D_L_table : Def P w K mg base CX0 1 "_law_table" ["_law_rows"] (spTable K) := ⟨_, fd_L_table, T.gl 18 "_law_table" rfl, F_L_table.kp, ok_table F_L_table z_range z_tuple z_len z_zip, F_L_table.bindsN fun _ _ _ _ _ _ us hl => match us, hl with | [_], _ => rfl⟩
  have D_L_due : Def P w K mg base CX0 4 "_law_due" ["_law_words", "_law_table_here"] (spDue K) := ⟨_, fd_L_due, T.gl 19 "_law_due" rfl, F_L_due.kp, ok_due F_L_due TB z_dict z_enumerate z_zip z_sorted z_len, F_L_due.bindsN fun _ _ _ _ _ _ us hl => match us, hl with | [_, _], _ => rfl⟩
  have D_L_parts : Def P w K mg base CX0 1 "_law_parts" ["_law_word"] spParts := ⟨_, fd_L_parts, T.gl 20 "_law_parts" rfl, F_L_parts.kp, ok_parts F_L_parts z_range z_len, F_L_parts.bindsN fun _ _ _ _ _ _ us hl => match us, hl with | [_], _ => rfl⟩
  have D_L_by_words : Def P w K mg base CX0 2 "_law_by_words" ["_law_rows", "_law_found", "_law_words", "_law_most"] (spByW K) := ⟨_, fd_L_by_words, T.gl 21 "_law_by_words" rfl, F_L_by_words.kp, ok_byW F_L_by_words z_range z_len z_dict z_zip z_tuple D_L_parts, F_L_by_words.bindsN fun _ _ _ _ _ _ us hl => match us, hl with | [_, _, _, _], _ => rfl⟩
  have D_L_right : Def P w K mg base CX0 6 "_law_right" ["_law_source_here", "_law_rows"] (spRight K) := ⟨_, fd_L_right, T.gl 22 "_law_right" rfl, F_L_right.kp, ok_right F_L_right T D_L_table D_L_due D_L_by_words mM FM bM M_rules, F_L_right.bindsN fun _ _ _ _ _ _ us hl => match us, hl with | [_, _], _ => rfl⟩
  have D_L_mixed : Def P w K mg base CX0 2 "_law_mixed" ["_law_source_here", "_law_rows"] spMixed := ⟨_, fd_L_mixed, T.gl 23 "_law_mixed" rfl, F_L_mixed.kp, ok_mixed F_L_mixed z_range z_tuple z_len D_L_draw, F_L_mixed.bindsN fun _ _ _ _ _ _ us hl => match us, hl with | [_, _], _ => rfl⟩
  exact ok_law F T D_L_source D_L_maps D_L_mixed D_L_right mM FM bM M_rules
end K18
open PySem PySem.W PySem.Calls PyProof.Rows
theorem PySem.Challenge.cw_letterfolds_k18_rules_of_a_monoid_holds : PySem.Challenge.rw_letterfolds_k18_rules_of_a_monoid.Holds := by
  w_on; o_law
  refine HandSHeadRun.head_any (r := K18.R) (q := K18.vw) (H := K18.hk) (ob := K18.ob) (M := 20000) (loose := K18.loose) (d := HandSHeadRun.topDef K18.R.prog 31) (kwd := []) K18.ob_eq
    (by kernel_rfl) (fun s => by kernel_rfl) K18.run (by kernel_rfl) (by kernel_rfl) (by kernel_rfl) (by rfl) (by first | assumption | decide +kernel) (by decide +kernel) ⟨rfl, rfl, rfl, rfl, rfl, by decide +kernel⟩ ?hw ?hc
  case hw => w_witness2
  case hc =>
    refine LamX.walk_ofTsE (l := PySem.Challenge.rw_letterfolds_k18_rules_of_a_monoid) (n := 63) (k := 7) (x := "_law_script") (CX := fun _ => L2.CX0) rfl (by decide) (by kernel_rfl) ⟨rfl, by decide, by decide⟩ ?F (fun _ _ _ _ _ z => z)
    intro w mg fa h Y G hmg0
    obtain ⟨K, KX, S⟩ := Y
    have hmg : mg ("law" : PySem.Str) = some (.ref fa) := by
      have e : (HandSHeadRun.topDef K18.R.prog 31).name = ("law" : PySem.Str) := by kernel_rfl
      rw [← e]
      exact hmg0
    obtain ⟨fd, hb, hF⟩ := K18.facts (P := PySem.Challenge.rw_letterfolds_k18_rules_of_a_monoid.prog) (w := w) KX G hmg S.d S.m
    have one : ∀ {C : PySem.Addr × PySem.Addr → Prop}, C (He.cT K ("_law_due", none)) → ∀ p ∈ [He.cT K ("_law_due", none)], C p := fun h p hp => by rw [List.mem_singleton.mp hp]; exact h
    refine ⟨K, KX, fd, [He.cT K ("_law_due", none)], K18.spLaw K, one (S.empty _ List.mem_cons_self), one (S.out _ List.mem_cons_self), one (PySem.W.codeHd_of_K KX (S.hd _ List.mem_cons_self)), hb, fun H a ns hl _ hH hS => ⟨a, ns, rfl, hS, hl, fun p hp => ?_, fun _ => rfl⟩, fun base k1 k2 k3 => hF base k1 k2 (k3 _ List.mem_cons_self)⟩
    rw [List.mem_singleton.mp hp]
    exact LamX.TabS.nil (hH _ List.mem_cons_self)
