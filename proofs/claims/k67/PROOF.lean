import PyProof.Rows.All
import Wide.All
import OpenK.AllK
import Wide.FinOn
import KE.KExcIs
import KE.KExcMore
import HandS.ForMost
import HandS.ForExc
import HandS.ExcInit
import HandS.ExcField
import HandS.ExcIs
import HandS.ExcValue
import HandS.IsInst
import HandS.HeadHook4
import HandS.Strs
import KE.GoesEnum
import HandS.Walk
import KE.KOpsOwn
import HandS.OwnEq
import HandS.Dict
import KE.GoesMore
import KE.GoesZip
import HandS.Style
import HandS.Conv
import HandS.SortInts
import HandS.StrMore
import HandS.Replace
import PyProof.ListStr
import PyProof.StrOps2
import HandS.HotCalls
import HandS.TryMany
import PyProof.ReprRoads
import PyProof.CallFns
import PyProof.Rows.FactsT3
import KE.KEqDeep
import HandS.Deep
import PyProof.ReprLen
import HandS.Defaults
import PyProof.StrLawsRepr
import HandS.Lambda
import HandS.SetKeys
import PyProof.DictMoreH
import KE.KStateDown
import HandS.Head2
import HandS.HeadEnd
import PySem.Challenge.RW_letterfolds_k67_words_that_things_have
set_option Elab.async false
set_option linter.all false
set_option maxRecDepth 100000
set_option maxHeartbeats 2000000
/-! Maps of points, tables of monoids: plain mathematics. -/
namespace Mon
/-- first x, then y -/
def comp (x y : List Nat) : List Nat := x.map fun i => y.getD i 0
def Valid (n : Nat) (x : List Nat) : Prop := x.length = n ∧ ∀ i ∈ x, i < n
theorem getD_at {α : Type} {l : List α} {i : Nat} {d : α} (h : i < l.length) : l.getD i d = l[i] := by simp [List.getD, h]
theorem getD_of {α : Type} {l : List α} {i : Nat} {d v : α} (h : l[i]? = some v) : l.getD i d = v := by simp [List.getD, h]
theorem comp_valid {n : Nat} {x y : List Nat} (hx : Valid n x) (hy : Valid n y) : Valid n (comp x y) := by
  refine ⟨by rw [comp, List.length_map, hx.1], fun i hi => ?_⟩
  obtain ⟨j, hj, rfl⟩ := List.mem_map.mp hi
  rw [getD_at (by rw [hy.1]; exact hx.2 j hj)]
  exact hy.2 _ (List.getElem_mem _)
theorem comp_assoc {n : Nat} {x y z : List Nat} (hx : Valid n x) (hy : Valid n y) : comp (comp x y) z = comp x (comp y z) := by
  unfold comp
  rw [List.map_map]
  refine List.map_congr_left fun i hi => ?_
  have h : i < y.length := by rw [hy.1]; exact hx.2 i hi
  show z.getD (y.getD i 0) 0 = (y.map fun j => z.getD j 0).getD i 0
  rw [getD_at h, getD_at (l := y.map fun j => z.getD j 0) (by rw [List.length_map]; exact h), List.getElem_map]
def idm (n : Nat) : List Nat := List.range n
theorem idm_valid {n : Nat} : Valid n (idm n) := ⟨List.length_range, fun i hi => List.mem_range.mp hi⟩
theorem id_comp {n : Nat} {y : List Nat} (hy : Valid n y) : comp (idm n) y = y := by
  apply List.ext_getElem
  · rw [comp, List.length_map, idm, List.length_range, hy.1]
  · intro i h1 h2
    simp only [comp, idm, List.getElem_map, List.getElem_range]
    exact getD_at h2
theorem comp_id {n : Nat} {x : List Nat} (hx : Valid n x) : comp x (idm n) = x := by
  conv => rhs; rw [← List.map_id x]
  refine List.map_congr_left fun i hi => ?_
  have h : i < (idm n).length := by rw [idm, List.length_range]; exact hx.2 i hi
  rw [getD_at h]
  simp [idm]
/-! ### how many -/
theorem nodup_lt : ∀ (N : Nat) (l : List Nat), l.Nodup → (∀ x ∈ l, x < N) → l.length ≤ N
  | 0, l, _, h => by
    cases l with
    | nil => exact Nat.le_refl _
    | cons x r => exact absurd (h x List.mem_cons_self) (Nat.not_lt_zero _)
  | N + 1, l, nd, h => by
    by_cases hm : N ∈ l
    · have q := nodup_lt N (l.erase N) (nd.erase N) fun x hx => by
        have h1 := h x (List.mem_of_mem_erase hx)
        have h2 : x ≠ N := fun e => by
          rw [e] at hx
          exact (List.Nodup.not_mem_erase nd) hx
        omega
      rw [List.length_erase_of_mem hm] at q
      omega
    · have q := nodup_lt N l nd fun x hx => by
        have h1 := h x hx
        have h2 : x ≠ N := fun e => hm (e ▸ hx)
        omega
      omega
/-- the number that a list of digits tells -/
def enc (n : Nat) : List Nat → Nat
  | [] => 0
  | i :: r => i + n * enc n r
theorem enc_lt {n : Nat} : ∀ {x : List Nat}, (∀ i ∈ x, i < n) → enc n x < n ^ x.length
  | [], _ => by simp [enc]
  | i :: r, h => by
    have a := h i List.mem_cons_self
    have b := enc_lt (x := r) fun j hj => h j (List.mem_cons_of_mem _ hj)
    have c : n * (enc n r + 1) ≤ n * n ^ r.length := Nat.mul_le_mul_left _ b
    rw [Nat.mul_add, Nat.mul_one] at c
    simp only [enc, List.length_cons, Nat.pow_succ]
    rw [Nat.mul_comm (n ^ r.length) n]
    omega
theorem enc_inj {n : Nat} : ∀ {x y : List Nat}, x.length = y.length → (∀ i ∈ x, i < n) → (∀ i ∈ y, i < n) → enc n x = enc n y → x = y
  | [], [], _, _, _, _ => rfl
  | [], _ :: _, e, _, _, _ => by cases e
  | _ :: _, [], e, _, _, _ => by cases e
  | i :: r, j :: q, e, hx, hy, h => by
    have a := hx i List.mem_cons_self
    have b := hy j List.mem_cons_self
    simp only [enc] at h
    have m1 : (i + n * enc n r) % n = i := by rw [Nat.add_mul_mod_self_left, Nat.mod_eq_of_lt a]
    have m2 : (j + n * enc n q) % n = j := by rw [Nat.add_mul_mod_self_left, Nat.mod_eq_of_lt b]
    have e1 : i = j := by rw [← m1, ← m2, h]
    subst e1
    have e2 : enc n r = enc n q := by
      have z : n * enc n r = n * enc n q := by omega
      exact Nat.eq_of_mul_eq_mul_left (by omega) z
    rw [enc_inj (by simpa using e) (fun k hk => hx k (List.mem_cons_of_mem _ hk)) (fun k hk => hy k (List.mem_cons_of_mem _ hk)) e2]
theorem maps_few {n : Nat} {f : List (List Nat)} (nd : f.Nodup) (v : ∀ x ∈ f, Valid n x) : f.length ≤ n ^ n := by
  have q := nodup_lt (n ^ n) (f.map (enc n)) ?_ ?_
  · rwa [List.length_map] at q
  · rw [List.Nodup, List.pairwise_map]
    refine nd.imp_of_mem fun {a b} ha hb ne e => ne ?_
    exact enc_inj (by rw [(v a ha).1, (v b hb).1]) (v a ha).2 (v b hb).2 e
  · intro x hx
    obtain ⟨y, hy, rfl⟩ := List.mem_map.mp hx
    have := enc_lt (v y hy).2
    rwa [(v y hy).1] at this
/-! ### the order in which numbers are met -/
def madeRow (i : Nat) : Nat → List Nat → List (Nat × Nat) → Option (List (Nat × Nat))
  | _, [], m => some m
  | c, t :: r, m => if m.length + 1 < t then none else if t = m.length + 1 then madeRow i (c + 1) r (m ++ [(i, c)]) else madeRow i (c + 1) r m
def madeTab : Nat → List (List Nat) → List (Nat × Nat) → Option (List (Nat × Nat))
  | _, [], m => some m
  | i, row :: rest, m => if m.length + 1 ≤ i then none else (madeRow i 0 row m).bind (madeTab (i + 1) rest)
theorem madeRow_snoc {i t : Nat} : ∀ {row : List Nat} {c : Nat} {m : List (Nat × Nat)}, madeRow i c (row ++ [t]) m = (madeRow i c row m).bind fun m' => if m'.length + 1 < t then none else if t = m'.length + 1 then some (m' ++ [(i, c + row.length)]) else some m'
  | [], c, m => by simp [madeRow]
  | u :: r, c, m => by
    simp only [List.cons_append, madeRow]
    split
    · rfl
    · split
      · rw [madeRow_snoc, List.length_cons, Nat.add_assoc, Nat.add_comm 1]
      · rw [madeRow_snoc, List.length_cons, Nat.add_assoc, Nat.add_comm 1]
theorem madeTab_snoc {row : List Nat} : ∀ {rows : List (List Nat)} {i : Nat} {m : List (Nat × Nat)}, madeTab i (rows ++ [row]) m = (madeTab i rows m).bind fun m' => if m'.length + 1 ≤ i + rows.length then none else madeRow (i + rows.length) 0 row m'
  | [], i, m => by
    simp only [List.nil_append, madeTab, List.length_nil, Nat.add_zero, Option.bind_some]
    split
    · rfl
    · cases madeRow i 0 row m <;> rfl
  | u :: r, i, m => by
    simp only [List.cons_append, madeTab]
    split
    · rfl
    · cases h : madeRow i 0 u m with
      | none => rfl
      | some m' =>
        simp only [Option.bind_some]
        rw [madeTab_snoc, List.length_cons]
        rw [show i + 1 + r.length = i + (r.length + 1) by omega]
/-- what was met: each number at a place of the table before it -/
theorem madeRow_ok {i : Nat} : ∀ {row : List Nat} {c : Nat} {m m' : List (Nat × Nat)}, madeRow i c row m = some m' → ∃ e, m' = m ++ e ∧ ∀ k p, e[k]? = some p → p.1 = i ∧ c ≤ p.2 ∧ row[p.2 - c]? = some (m.length + k + 1)
  | [], c, m, m', h => by
    simp only [madeRow, Option.some.injEq] at h
    exact ⟨[], by simp [h], fun k p hp => by simp at hp⟩
  | t :: r, c, m, m', h => by
    simp only [madeRow] at h
    split at h
    · cases h
    · split at h
      · rename_i ht
        obtain ⟨e, he, q⟩ := madeRow_ok h
        refine ⟨(i, c) :: e, by rw [he, List.append_assoc]; rfl, fun k p hp => ?_⟩
        cases k with
        | zero =>
          have := Option.some.inj hp
          subst this
          refine ⟨rfl, Nat.le_refl _, ?_⟩
          rw [Nat.sub_self]
          simp [ht]
        | succ k =>
          obtain ⟨q1, q2, q3⟩ := q k p (by simpa using hp)
          refine ⟨q1, by omega, ?_⟩
          rw [show p.2 - c = (p.2 - (c + 1)) + 1 by omega, List.getElem?_cons_succ, q3, List.length_append]
          congr 1
          show m.length + 1 + k + 1 = m.length + (k + 1) + 1
          omega
      · obtain ⟨e, he, q⟩ := madeRow_ok h
        refine ⟨e, he, fun k p hp => ?_⟩
        obtain ⟨q1, q2, q3⟩ := q k p hp
        refine ⟨q1, by omega, ?_⟩
        rw [show p.2 - c = (p.2 - (c + 1)) + 1 by omega, List.getElem?_cons_succ, q3]
theorem madeTab_ok : ∀ {rows : List (List Nat)} {i : Nat} {m m' : List (Nat × Nat)}, madeTab i rows m = some m' → ∃ e, m' = m ++ e ∧ ∀ k p, e[k]? = some p → i ≤ p.1 ∧ p.1 < m.length + k + 1 ∧ ∃ row, rows[p.1 - i]? = some row ∧ row[p.2]? = some (m.length + k + 1)
  | [], i, m, m', h => by
    simp only [madeTab, Option.some.injEq] at h
    exact ⟨[], by simp [h], fun k p hp => by simp at hp⟩
  | u :: r, i, m, m', h => by
    simp only [madeTab] at h
    split at h
    · cases h
    · rename_i hi
      cases h1 : madeRow i 0 u m with
      | none => rw [h1] at h; cases h
      | some m1 =>
        rw [h1, Option.bind_some] at h
        obtain ⟨e1, he1, q1⟩ := madeRow_ok h1
        obtain ⟨e2, he2, q2⟩ := madeTab_ok h
        refine ⟨e1 ++ e2, by rw [he2, he1, List.append_assoc], fun k p hp => ?_⟩
        by_cases hk : k < e1.length
        · rw [List.getElem?_append_left hk] at hp
          obtain ⟨a, b, c⟩ := q1 k p hp
          refine ⟨by omega, by omega, u, by rw [a, Nat.sub_self]; rfl, ?_⟩
          rwa [Nat.sub_zero] at c
        · rw [List.getElem?_append_right (by omega)] at hp
          obtain ⟨a, b, row, c, d⟩ := q2 _ p hp
          have le : m1.length = m.length + e1.length := by rw [he1, List.length_append]
          refine ⟨by omega, by omega, row, ?_, ?_⟩
          · rw [show p.1 - i = (p.1 - (i + 1)) + 1 by omega, List.getElem?_cons_succ, c]
          · rw [d, le]
            congr 1
            omega
theorem madeTab_app {b : List (List Nat)} : ∀ {a : List (List Nat)} {i : Nat} {m : List (Nat × Nat)}, madeTab i (a ++ b) m = (madeTab i a m).bind (madeTab (i + a.length) b)
  | [], i, m => by simp [madeTab]
  | u :: r, i, m => by
    simp only [List.cons_append, madeTab]
    split
    · rfl
    · cases madeRow i 0 u m with
      | none => rfl
      | some m' =>
        simp only [Option.bind_some]
        rw [madeTab_app, List.length_cons, show i + 1 + r.length = i + (r.length + 1) by omega]
theorem take_cons {α : Type} {l : List α} {i : Nat} {x : α} (h : l[i]? = some x) : l = l.take i ++ x :: l.drop (i + 1) ∧ l.take (i + 1) = l.take i ++ [x] ∧ (l.take i).length = i := by
  obtain ⟨hi, e⟩ := List.getElem?_eq_some_iff.mp h
  refine ⟨?_, ?_, by rw [List.length_take]; omega⟩
  · rw [← e, ← List.drop_eq_getElem_cons hi, List.take_append_drop]
  · rw [← e, List.take_succ_eq_append_getElem hi]
theorem madeTab_at {rows : List (List Nat)} {i : Nat} {row : List Nat} {m : List (Nat × Nat)} (h : madeTab 0 rows [] = some m) (hr : rows[i]? = some row) :
    ∃ m', madeTab 0 (rows.take i) [] = some m' ∧ i < m'.length + 1 ∧ ∃ m'', madeRow i 0 row m' = some m'' ∧ madeTab 0 (rows.take (i + 1)) [] = some m'' := by
  obtain ⟨e1, e2, e3⟩ := take_cons hr
  rw [e1, madeTab_app, e3, Nat.zero_add] at h
  cases h1 : madeTab 0 (rows.take i) [] with
  | none => rw [h1] at h; cases h
  | some m' =>
    rw [h1, Option.bind_some] at h
    simp only [madeTab] at h
    split at h
    · cases h
    · rename_i hi
      cases h2 : madeRow i 0 row m' with
      | none => rw [h2] at h; cases h
      | some m'' =>
        refine ⟨m', rfl, by omega, m'', h2, ?_⟩
        rw [e2, madeTab_app, h1, e3, Nat.zero_add, Option.bind_some]
        simp only [madeTab]
        rw [if_neg hi, h2]
        rfl
theorem madeRow_app {i : Nat} {b : List Nat} : ∀ {a : List Nat} {c : Nat} {m : List (Nat × Nat)}, madeRow i c (a ++ b) m = (madeRow i c a m).bind (madeRow i (c + a.length) b)
  | [], c, m => by simp [madeRow]
  | u :: r, c, m => by
    simp only [List.cons_append, madeRow, List.length_cons]
    split
    · rfl
    · split
      · rw [madeRow_app, show c + 1 + r.length = c + (r.length + 1) by omega]
      · rw [madeRow_app, show c + 1 + r.length = c + (r.length + 1) by omega]
theorem madeRow_at {row : List Nat} {i c t : Nat} {m m2 : List (Nat × Nat)} (h : madeRow i 0 row m = some m2) (hr : row[c]? = some t) :
    ∃ m', madeRow i 0 (row.take c) m = some m' ∧ t ≤ m'.length + 1 ∧ madeRow i 0 (row.take (c + 1)) m = some (if t = m'.length + 1 then m' ++ [(i, c)] else m') := by
  obtain ⟨e1, e2, e3⟩ := take_cons hr
  rw [e1, madeRow_app, e3, Nat.zero_add] at h
  cases h1 : madeRow i 0 (row.take c) m with
  | none => rw [h1] at h; cases h
  | some m' =>
    rw [h1, Option.bind_some] at h
    simp only [madeRow] at h
    split at h
    · cases h
    · rename_i hi
      refine ⟨m', rfl, by omega, ?_⟩
      rw [e2, madeRow_app, h1, e3, Nat.zero_add, Option.bind_some]
      simp only [madeRow]
      rw [if_neg hi]
      split <;> rfl
theorem madeTab_lt {rows : List (List Nat)} {m : List (Nat × Nat)} (h : madeTab 0 rows [] = some m) {k : Nat} {p : Nat × Nat} (hp : m[k]? = some p) : p.1 < k + 1 ∧ ∃ row, rows[p.1]? = some row ∧ row[p.2]? = some (k + 1) := by
  obtain ⟨e, he, q⟩ := madeTab_ok h
  rw [List.nil_append] at he
  subst he
  obtain ⟨_, a, row, b, c⟩ := q k p hp
  refine ⟨by simpa using a, row, by simpa using b, by simpa using c⟩
/-! ### a table that maps act by -/
structure Tab (n : Nat) (gens found rows : List (List Nat)) : Prop where
  nd : found.Nodup
  val : ∀ x ∈ found, Valid n x
  gval : ∀ g ∈ gens, Valid n g
  head : found[0]? = some (idm n)
  len : rows.length = found.length
  wid : ∀ (i : Nat) row, rows[i]? = some row → row.length = gens.length
  ent : ∀ (i : Nat) row, rows[i]? = some row → ∀ (c t : Nat), row[c]? = some t → ∃ x g, found[i]? = some x ∧ gens[c]? = some g ∧ found[t]? = some (comp x g)
def leftStep (rows : List (List Nat)) (L : List (List Nat)) (p : Nat × Nat) : List (List Nat) := L ++ [(L.getD p.1 []).map fun x => (rows.getD x []).getD p.2 0]
def leftTab (rows : List (List Nat)) (made : List (Nat × Nat)) : List (List Nat) := made.foldl (leftStep rows) [rows.getD 0 []]
/-- row k of the left table tells what letters in front of element k are -/
def LeftOk (gens found : List (List Nat)) (k : Nat) (l : List Nat) : Prop := l.length = gens.length ∧ ∀ (a e : Nat), l[a]? = some e → ∃ g x, gens[a]? = some g ∧ found[k]? = some x ∧ found[e]? = some (comp g x)
theorem nodup_at {α : Type} {l : List α} (nd : l.Nodup) {i j : Nat} {x : α} (h1 : l[i]? = some x) (h2 : l[j]? = some x) : i = j := by
  obtain ⟨a, ha⟩ := List.getElem?_eq_some_iff.mp h1
  obtain ⟨b, hb⟩ := List.getElem?_eq_some_iff.mp h2
  have pw := List.pairwise_iff_getElem.mp nd
  rcases Nat.lt_trichotomy i j with h | h | h
  · exact absurd (ha.trans hb.symm) (pw i j a b h)
  · exact h
  · exact absurd (hb.trans ha.symm) (pw j i b a h)
section
variable {n : Nat} {gens found rows : List (List Nat)}
theorem Tab.at (T : Tab n gens found rows) {i : Nat} {x : List Nat} (h : found[i]? = some x) : ∃ row, rows[i]? = some row := by
  have := (List.getElem?_eq_some_iff.mp h).1
  exact ⟨_, List.getElem?_eq_getElem (by rw [T.len]; exact this)⟩
/-- the entry of row i at letter c -/
theorem Tab.get (T : Tab n gens found rows) {i c : Nat} {x g : List Nat} (h : found[i]? = some x) (hg : gens[c]? = some g) : found[(rows.getD i []).getD c 0]? = some (comp x g) := by
  obtain ⟨row, hr⟩ := T.at h
  have hc : c < row.length := by rw [T.wid i row hr]; exact (List.getElem?_eq_some_iff.mp hg).1
  obtain ⟨x', g', h1, h2, h3⟩ := T.ent i row hr c row[c] (List.getElem?_eq_getElem hc)
  rw [h] at h1
  rw [hg] at h2
  cases h1
  cases h2
  rw [getD_of hr, getD_at hc]
  exact h3
theorem left_len {made : List (Nat × Nat)} : (leftTab rows made).length = made.length + 1 := by
  unfold leftTab
  suffices h : ∀ (m : List (Nat × Nat)) (L : List (List Nat)), (m.foldl (leftStep rows) L).length = L.length + m.length by
    rw [h, List.length_singleton, Nat.add_comm]
  intro m
  induction m with
  | nil => intro L; simp
  | cons p r ih => intro L; rw [List.foldl_cons, ih, leftStep, List.length_append, List.length_singleton, List.length_cons]; omega
theorem left_snoc {made : List (Nat × Nat)} {p : Nat × Nat} : leftTab rows (made ++ [p]) = leftStep rows (leftTab rows made) p := by
  unfold leftTab
  rw [List.foldl_append]
  rfl
theorem left_ok (T : Tab n gens found rows) (hz : gens ≠ []) : ∀ (made : List (Nat × Nat)), (∀ k p, made[k]? = some p → p.1 < k + 1 ∧ ∃ row, rows[p.1]? = some row ∧ row[p.2]? = some (k + 1)) → ∀ k l, (leftTab rows made)[k]? = some l → LeftOk gens found k l := by
  intro made
  have base : ∀ l, rows.getD 0 [] = l → LeftOk gens found 0 l := fun l hl => by
    obtain ⟨row, hr⟩ := T.at T.head
    rw [getD_of hr] at hl
    subst hl
    refine ⟨T.wid 0 row hr, fun a e he => ?_⟩
    obtain ⟨x, g, h1, h2, h3⟩ := T.ent 0 row hr a e he
    rw [T.head] at h1
    cases h1
    have gv := T.gval g (List.mem_of_getElem? h2)
    refine ⟨g, idm n, h2, T.head, ?_⟩
    rw [comp_id gv, h3, id_comp gv]
  suffices h : ∀ (r : List (Nat × Nat)) (m : List (Nat × Nat)), (∀ k p, (m ++ r)[k]? = some p → p.1 < k + 1 ∧ ∃ row, rows[p.1]? = some row ∧ row[p.2]? = some (k + 1)) → (∀ k l, (leftTab rows m)[k]? = some l → LeftOk gens found k l) →
      ∀ k l, (leftTab rows (m ++ r))[k]? = some l → LeftOk gens found k l by
    intro hm
    have := h made [] (by simpa using hm) (fun k l hl => by
      unfold leftTab at hl
      cases k with
      | zero => exact base l (Option.some.inj hl)
      | succ k => simp at hl)
    simpa using this
  intro r
  induction r with
  | nil => intro m _ h; simpa using h
  | cons p r ih =>
    intro m hm h
    rw [List.append_cons]
    refine ih (m ++ [p]) (by rw [← List.append_cons]; exact hm) fun k l hl => ?_
    rw [left_snoc, leftStep] at hl
    by_cases hk : k < (leftTab rows m).length
    · rw [List.getElem?_append_left hk] at hl
      exact h k l hl
    · have hk2 : k = (leftTab rows m).length := by
        have := (List.getElem?_eq_some_iff.mp hl).1
        rw [List.length_append, List.length_singleton] at this
        omega
      rw [List.getElem?_append_right (by omega), hk2, Nat.sub_self] at hl
      have el := Option.some.inj hl
      have kl : k = m.length + 1 := by rw [hk2, left_len]
      obtain ⟨b1, row, hrow, hent⟩ := hm m.length p (by rw [List.getElem?_append_right (Nat.le_refl _), Nat.sub_self]; rfl)
      obtain ⟨xb, gp, hxb, hgp, hfk⟩ := T.ent p.1 row hrow p.2 _ hent
      have hb : p.1 < (leftTab rows m).length := by rw [left_len]; exact b1
      have hL := h p.1 ((leftTab rows m)[p.1]) (List.getElem?_eq_getElem hb)
      rw [getD_at hb] at el
      refine ⟨by rw [← el, List.length_map]; exact hL.1, fun a e he => ?_⟩
      rw [← el, List.getElem?_map] at he
      cases q : ((leftTab rows m)[p.1])[a]? with
      | none => rw [q] at he; cases he
      | some e0 =>
        rw [q] at he
        have ee := Option.some.inj he
        obtain ⟨g, x, h1, h2, h3⟩ := hL.2 a e0 q
        rw [hxb] at h2
        cases h2
        have z := T.get h3 hgp
        have gv := T.gval g (List.mem_of_getElem? h1)
        have xv := T.val xb (List.mem_of_getElem? hxb)
        refine ⟨g, comp xb gp, h1, by rw [kl]; exact hfk, ?_⟩
        rw [← ee, z, comp_assoc gv xv]
theorem prod_ok (T : Tab n gens found rows) (hz : gens ≠ []) {L : List (List Nat)} (hL : ∀ k l, L[k]? = some l → LeftOk gens found k l) {i c t : Nat} {row li lt : List Nat} (h1 : rows[i]? = some row) (h2 : row[c]? = some t) (h3 : L[i]? = some li) (h4 : L[t]? = some lt) :
    lt = li.map fun x => (rows.getD x []).getD c 0 := by
  obtain ⟨x, g, hx, hg, ht⟩ := T.ent i row h1 c t h2
  have a := hL i li h3
  have b := hL t lt h4
  apply List.ext_getElem
  · rw [List.length_map, a.1, b.1]
  · intro k k1 k2
    rw [List.length_map] at k2
    rw [List.getElem_map]
    obtain ⟨ga, y, e1, e2, e3⟩ := b.2 k lt[k] (List.getElem?_eq_getElem k1)
    obtain ⟨gb, z, e4, e5, e6⟩ := a.2 k li[k] (List.getElem?_eq_getElem k2)
    rw [e1] at e4
    cases e4
    rw [ht] at e2
    cases e2
    rw [hx] at e5
    cases e5
    have q := T.get e6 hg
    have gv := T.gval ga (List.mem_of_getElem? e1)
    have xv := T.val x (List.mem_of_getElem? hx)
    rw [comp_assoc gv xv] at q
    exact nodup_at T.nd e3 q
end
end Mon

set_option Elab.async false
set_option linter.all false
set_option maxRecDepth 100000
set_option maxHeartbeats 4000000
/-! Facts of error classes. -/
namespace Lf
open PySem PySem.Spec PyProof.Rows L2
/-- what isinstance of an error of the class at C wants -/
structure IsC (K : PySem.W.Frag) (C : Addr) : Prop where
  cl : (PySem.W.clsIn K C).isSome = true
  ga : PySem.W.findIn K (.ref C) "__getattribute__" = some (some (.builtin "BaseException.__getattribute__"))
  gg : PySem.W.findIn K (.ref C) "__getattr__" = some none
  sb : PySem.W.subIn K (.ref C) (.type "BaseException") = some true
  ca : PySem.W.findIn K (.ref C) "__class__" = some (some (.builtin "object.__class__"))
  sg : PySem.W.specialIn K (.builtin "object.__class__") "__get__" = some (some (.builtin "getset_descriptor.__get__"))
  tk : PySem.W.takesIn K (.builtin "object.__class__") = some true
  ob : PySem.W.mroIn K C (.type "object") = some true
/-! ### the classes by one look at the written part -/
/-- an exception class over ValueError -/
def oexB (K : PySem.W.Frag) (C : Addr) : Bool := match K.lookup C with
  | some ⟨.type t, _, .cls cd, sl⟩ => (match cd.mro, sl.toList with
    | .ref D :: bm, [_, _, _, _, some (.builtin n), _] => decide (t = "type") && (decide (D = C) && (decide (n = "ValueError.__new__") && (!cd.hasDel && (cd.hasDict && PySem.HandSPX.refsVE bm))))
    | _, _ => false)
  | _ => false
theorem oexB_ok {K : PySem.W.Frag} {C : Addr} (h : oexB K C = true) : ∃ nm q N bs bm sn sub ab col dd k0 k1 k2 k3 k5,
    K.lookup C = some (excClassObj nm q C N bs bm true sn sub ab col dd k0 k1 k2 k3 k5 "ValueError.__new__") ∧ PySem.HandSPX.refsVE bm = true := by
  unfold oexB at h
  split at h
  · rename_i t dd cd sl lk
    split at h
    · rename_i D bm k0 k1 k2 k3 n k5 hm hs
      simp only [Bool.and_eq_true, decide_eq_true_eq, Bool.not_eq_true'] at h
      obtain ⟨rfl, rfl, rfl, h4, h5, h6⟩ := h
      obtain ⟨nm, bs, mro, ns, qn, hd, sn, sub, ab, col, del⟩ := cd
      dsimp only at hm h4 h5
      subst hm h4 h5
      obtain ⟨l⟩ := sl
      dsimp only at hs
      subst hs
      exact ⟨nm, qn, ns, bs, bm, sn, sub, ab, col, dd, k0, k1, k2, k3, k5, lk, h6⟩
    · cases h
  · cases h
def errB (K : PySem.W.Frag) (C : Addr) : Bool :=
  oexB K C && (decide (PySem.W.findIn K (.ref C) "__setattr__" = some (some (.builtin "object.__setattr__"))) && (decide (PySem.W.subIn K (.ref C) (.type "BaseException") = some true) &&
  (decide (PySem.W.typeIn K (.ref C) = some (.type "type")) && (PySem.W.keepIn K (.ref C) && (PySem.W.hasDictIn K C &&
  (decide (PySem.W.findIn K (.ref C) "__getattribute__" = some (some (.builtin "BaseException.__getattribute__"))) && (decide (PySem.W.findIn K (.ref C) "__getattr__" = some none) &&
  (decide (PySem.W.findIn K (.ref C) "__class__" = some (some (.builtin "object.__class__"))) && (decide (PySem.W.specialIn K (.builtin "object.__class__") "__get__" = some (some (.builtin "getset_descriptor.__get__"))) &&
  (decide (PySem.W.takesIn K (.builtin "object.__class__") = some true) && decide (PySem.W.mroIn K C (.type "object") = some true)))))))))))
structure ErrC (K : PySem.W.Frag) (C : Addr) : Prop where
  o : OexC K C
  x : XfC K C
  i : IsC K C
theorem errB_ok {K : PySem.W.Frag} {C : Addr} (h : errB K C = true) : ErrC K C := by
  unfold errB at h
  simp only [Bool.and_eq_true, decide_eq_true_eq] at h
  obtain ⟨h1, h2, h3, h4, h5, h6, h7, h8, h9, h10, h11, h12⟩ := h
  have hc : (PySem.W.clsIn K C).isSome = true := by
    obtain ⟨nm, q, N, bs, bm, sn, sub, ab, col, dd, k0, k1, k2, k3, k5, lk, _⟩ := oexB_ok h1
    unfold PySem.W.clsIn
    rw [lk] <;> rfl
  exact ⟨⟨oexB_ok h1, h2, h3, h4, h5⟩, ⟨h7, h8, h3, h6⟩, ⟨hc, h7, h8, h3, h9, h10, h11, h12⟩⟩
end Lf

set_option Elab.async false
set_option linter.all false
set_option maxRecDepth 100000
set_option maxHeartbeats 4000000
/-! Errors of the program's own as values: made, read, asked, told. -/
namespace Lf
open PySem PySem.Spec PyProof.Rows L2

/-! ### made -/
/-- C(e, ..) as a value, C's own __init__ keeping sp -/
def tNew (C : Addr) (sp : Sp) (ta : TA) : TE := fun σ H Q => ta σ H fun vs H1 =>
  vs.length ≤ 1000 ∧ ∀ a, H1 a = none → sp (.ref a :: vs) (upd H1 a (exo a C none)) (fun v H2 => v = .non ∧ Q (.ref a) H2) E0
section
variable {X : Cx} {CX : CXT} {x : Str} {C fI : Addr} {k : Nat} {fd : FuncData} {ps : List Str} {sp : Sp} {e : Expr} {es : List Expr} {ta : TA} {p pos : Pos}
theorem pe_new (T : OexC X.K C) (iC : PySem.W.findIn X.K (.ref C) "__init__" = some (some (.ref fI)))
    (tI : PySem.W.typeIn X.K (.ref fI) = some (.type "function"))
    (F1 : FnOk X.prog X.w X.K X.mg X.base CX k fI fd ps sp) (hr : Room (k + 1) X.A) (hb : Binds X.K fd ps [])
    (hx : Passes CX X E0) (hg : Gl X x) (hm : X.mg x = some (.ref C)) (ha : PA X (e :: es) ta)
    (hdb : (x == ("__debug__" : Str)) = false := by decide +kernel)
    (he : starEach (e :: es) X.env = (false, eval e X.env) :: starEach es X.env := by rfl)
    (hpl : (backTo pos (starEach es X.env)).any (·.1) = false := by rfl) :
    PE X (.Call (.Name x p) (e :: es) [] pos) (tNew C sp ta) := by
  refine ⟨fun pins s σ H Q I h => ?_⟩
  obtain ⟨nm, q, N, bs, bm, sn, sub, ab, col, dd, k0, k1, k2, k3, k5, hC, hbm⟩ := T.cls
  refine wpAny_Call_Name_kw (ld_glob I hg hm ?_ hdb)
  refine PySem.W.callWith_K (h₀ := X.base) I.ok.mod.kin T.kC
    (thn (ha.run pos pins s σ H _ I h) fun us s1 hh => ?_) he hpl
  obtain ⟨vs, H1, I1, r1, hz, q1⟩ := hh
  refine ⟨I1.kIn, ?_⟩
  show wpAny _ _ (call (.ref C) us) _ _ _
  obtain ⟨hp, g, dr, tk, os⟩ := s1
  let a := hp.objs.size + 1
  have hsz : hp.objs.size ≤ a := Nat.le_succ _
  have hq := q1 a (I1.hok.fresh hsz)
  let hp' := (hp.push (PySem.W.kdv_tup us)).push (PySem.HandSPX.excO C hp.objs.size)
  have kk : ∀ b o, hp.get? b = some o → hp'.get? b = some o := fun b o z =>
    Heap.get?_push_of_some _ (Heap.get?_push_of_some _ z)
  have hget : ((hp.push (PySem.W.kdv_tup us)).push (PySem.HandSPX.excO C hp.objs.size)).get? (hp.objs.size + 1) =
    some (PySem.HandSPX.excO C hp.objs.size) := by heap_get
  have I2 : Inv X pins σ (upd H1 a (exo a C none)) ⟨hp', g, dr, tk, os⟩ :=
    I1.laid (t' := tk) (a := a) (o := exo a C none) (h' := hp') kk hsz (exo_ok (show hp'.get? a = _ from hget))
  have r2 : Vals (V.ref a :: vs) (Value.ref a :: us) := .cons rfl r1
  have hl : (Value.ref a :: us).length = ps.length := by
    have z := r2.length
    rw [F1.len _ _ _ _ hq] at z
    exact z.symm
  have hus : us.length ≤ sizeLine := by
    rw [← Paired.length r1, sizeLine_eq]
    omega
  have hb2 := hb ⟨hp', g, dr, tk, os⟩ (Value.ref a :: us) I2.kIn (by simpa using hl)
  rw [List.append_nil] at hb2
  refine wpAny_call (PySem.HandSPX.call_own F.excBase_ValueError (fun Y => PySem.HandSPX.refsVE_contains Y bm hbm) (I1.kIn _ _ hC)
    (PySem.W.looks_findIn I1.kIn iC) (fun self => PySem.W.bind_fn I1.kIn self tI) hus
    (codeAny_mono (F1.run _ X.stack _ _ ⟨Value.ref a :: us, []⟩ (Value.ref a :: us) _ _ E0 (hr.make C us []) (I2.env0.make C us []) hb2 r2 hq) fun r s' hq' => ?_))
  cases r with
  | error er => exact hx pins σ _ _ er s' I2 hq'
  | ok fl =>
    cases fl with
    | ret u =>
      obtain ⟨v, H2, os2, bare2, un2, hok2, rv, ev, q2⟩ := hq'
      subst ev
      exact ⟨rv, .ref a, H2, I2.call' (ch := []) os2 un2 hok2 bare2 (fun b z => nomatch z), rfl, q2⟩
    | next => exact False.elim hq'
    | brk => exact False.elim hq'
    | cont => exact False.elim hq'
end

/-! ### an error that stands -/
/-- at a an error of the class at C: its dict d, if it has one -/
def XAt (H : Hp) (a C : Addr) (d : Option Addr) : Prop := H a = some (exo a C d) ∨ (d = none ∧ H a = some (ExO (.ref C) a))
theorem XAt.obj {X : Cx} {pins : List (Addr × Obj)} {σ : L2.St} {H : Hp} {s : Shared} {a C : Addr} {d : Option Addr} (I : Inv X pins σ H s) (h : XAt H a C d) :
    ∃ oe vs, s.heap.get? a = some oe ∧ Zc (.ref C) d oe ∧ oe.data = .fields vs := by
  rcases h with h | ⟨rfl, h⟩
  · obtain ⟨t1, ho⟩ := exo_at I.hok h
    exact ⟨_, _, ho, ⟨rfl, rfl⟩, rfl⟩
  · obtain ⟨⟨oe, vs, ho, hz, hd, _⟩, _, _⟩ := I.hok a _ h
    exact ⟨oe, vs, ho, hz, hd⟩
theorem XAt.mono {H H' : Hp} {a C : Addr} {d : Option Addr} (h : XAt H a C d) (e : Same H H') : XAt H' a C d := by
  rcases h with h | ⟨z, h⟩
  · exact .inl (e _ _ h)
  · exact .inr ⟨z, e _ _ h⟩

/-! ### a field -/
def tXo (K : PySem.W.Frag) (f : Str) (te : TE) : TE := fun σ H Q => te σ H fun x H1 => ∃ (a C d : Addr) (fs : List (Str × V)) (v : V),
  x = .ref a ∧ XfC K C ∧ PySem.W.findIn K (.ref C) f = some none ∧ XAt H1 a C (some d) ∧ H1 d = some (exd d fs) ∧ fs.lookup f = some v ∧ Q v H1
theorem pe_xo {X : Cx} {e : Expr} {te : TE} {pos : Pos} {n : Str} (he : PE X e te)
    (hb : attributeBase e n X.env (eval e X.env) = eval e X.env := by rfl) : PE X (.Attribute e n pos) (tXo X.K n te) := by
  refine ⟨fun pins s σ H Q I h => ?_⟩
  refine attr_of hb (thn (he.run pins s σ H _ I h) fun u s1 hh => ?_)
  obtain ⟨x, H1, I1, rx, a, C, d, fs, v, ex, T, hno, ea, ed, l, q⟩ := hh
  subst ex
  obtain rfl : u = Value.ref a := rx
  obtain ⟨oe, vs, ho, hz, hd⟩ := ea.obj I1
  obtain ⟨mA, hns, hr⟩ := exd_at I1.hok ed
  obtain ⟨od, ho2, hl⟩ := lookIn_ns hns
  obtain ⟨u, hu, ru⟩ := RelO.some_of (v := v) (o := mA n) (by rw [← l]; exact hr n)
  have J : PySem.W.InstAt s1.heap a oe C (some od) := ⟨ho, hz.1, by unfold PySem.W.notCls; rw [hd] <;> rfl, by rw [hz.2]; exact ho2⟩
  exact HandSPX.exc_get I1.kIn J T.ga T.gg T.exC (PySem.W.findObj_own T.hdC hno rfl (by rw [hl, hu])) (handed_of ru)
    ⟨v, H1, I1.tok _, ru, q⟩

/-! ### isinstance -/
/-- its dict, if it has one, is an error's -/
def XDict (H : Hp) (d : Option Addr) : Prop := ∀ dx, d = some dx → ∃ fs, H dx = some (exd dx fs)
theorem XAt.inst {X : Cx} {pins : List (Addr × Obj)} {σ : L2.St} {H : Hp} {s : Shared} {a C : Addr} {d : Option Addr} (I : Inv X pins σ H s) (h : XAt H a C d) (hd : XDict H d) :
    ∃ ox od, PySem.W.InstAt s.heap a ox C od := by
  obtain ⟨oe, vs, ho, hz, hv⟩ := h.obj I
  have nc : PySem.W.notCls oe = true := by unfold PySem.W.notCls; rw [hv] <;> rfl
  cases d with
  | none => exact ⟨oe, none, ho, hz.1, nc, by rw [hz.2]; trivial⟩
  | some dx =>
    obtain ⟨fs, e⟩ := hd dx rfl
    obtain ⟨mA, hns, _⟩ := exd_at I.hok e
    obtain ⟨od, ho2, _⟩ := lookIn_ns hns
    exact ⟨oe, some od, ho, hz.1, nc, by rw [hz.2]; exact ho2⟩
def rIsX (K : PySem.W.Frag) : List V → Hp → VK → Prop := fun xs H Q => ∃ (a C : Addr) (d : Option Addr) (c : V) (cv : Value) (b : Bool),
  xs = [.ref a, c] ∧ ClsV c cv ∧ IsC K C ∧ XAt H a C d ∧ XDict H d ∧ PySem.W.kitOne K (.ref C) cv = some b ∧ Q (.bl b) H
theorem call_isX {X : Cx} : CallR X (.builtin "isinstance") (rIsX X.K) := by
  intro pins s σ H xs us Q I r h
  obtain ⟨a, C, d, c, cv, b, rfl, k, T, ha, hd, e, q⟩ := h
  obtain ⟨u1, u2, rfl, r1, r2⟩ := vals2 r
  obtain rfl := k.eq r2
  obtain rfl : u1 = Value.ref a := r1
  obtain ⟨ox, od, J⟩ := ha.inst I hd
  exact PySem.W.kia_one (PySem.W.kitx_exc (od := od) T.cl T.ga T.gg T.sb T.ca T.sg T.tk T.ob) I.kIn J e (fun z => nomatch z)
    fun tk => ⟨.bl b, H, I.tok tk, rfl, q⟩
def rIsXT (K : PySem.W.Frag) : List V → Hp → VK → Prop := fun xs H Q => ∃ (a C : Addr) (d : Option Addr) (tp : Addr) (cs : List V) (us : List Value) (b : Bool),
  xs = [.ref a, .ref tp] ∧ H tp = some (.tup cs) ∧ Paired ClsV cs us ∧ IsC K C ∧ XAt H a C d ∧ XDict H d ∧ PySem.W.kitAny K (.ref C) us = some b ∧ Q (.bl b) H
theorem call_isXT {X : Cx} : CallR X (.builtin "isinstance") (rIsXT X.K) := by
  intro pins s σ H xs us Q I r h
  obtain ⟨a, C, d, tp, cs, ws, b, rfl, htp, k, T, ha, hd, e, q⟩ := h
  obtain ⟨u1, u2, rfl, r1, r2⟩ := vals2 r
  obtain rfl : u1 = Value.ref a := r1
  obtain rfl : u2 = Value.ref tp := r2
  obtain ⟨ox, od, J⟩ := ha.inst I hd
  obtain ⟨_, its, rv, ⟨oc, dd, dt, sl⟩, h1, h2, n, h3⟩ := (show ObjOk X.prog X.w H s.heap tp (.tup cs) from I.hok tp _ htp)
  obtain rfl := ClsV.all k rv
  dsimp only at h2 h3
  subst h2 h3
  exact PySem.W.kia_tup (PySem.W.kitx_exc (od := od) T.cl T.ga T.gg T.sb T.ca T.sg T.tk T.ob) I.kIn J h1 e (fun z => nomatch z)
    fun tk => ⟨.bl b, H, I.tok tk, rfl, q⟩

/-! ### told() -/
/-- e.m() of an error e, by what stands of its class -/
def tTold (X : Cx) (m : Str) (te : TE) : TE := fun σ H Q => te σ H fun x H1 => ∃ (a C f : Addr) (d : Option Addr) (fd : FuncData) (sp : Sp),
  x = .ref a ∧ IsC X.K C ∧ Meth X.K C m f ∧ XAt H1 a C d ∧ (∀ dx, d = some dx → ∃ fs, H1 dx = some (exd dx fs) ∧ fs.lookup m = none) ∧
    FnOk X.prog X.w X.K X.mg X.base CX0 1 f fd ["self"] sp ∧ Binds X.K fd ["self"] [] ∧ sp [.ref a] H1 Q E0
theorem pe_told {X : Cx} {o : Expr} {m : Str} {te : TE} {pos apos : Pos} {pl : Sem Bool} (he : PE X o te) (hr : Room 1 X.A)
    (ht : eval (.Call (.Attribute o m apos) [] [] pos) X.env = (do
      let ov ← eval o X.env
      standAt apos.atName
      let (f, first) ← holding [ov] (getMethod ov m pl)
      callWith pos f first (backTo pos (starEach [] X.env)) (backToKw pos (keywordEach [] X.env))) := by rfl) :
    PE X (.Call (.Attribute o m apos) [] [] pos) (tTold X m te) := by
  refine ⟨fun pins s σ H Q I h => ?_⟩
  refine PySem.W.methodCall_KW (pl := pl) (thn (he.run pins s σ H _ I h) fun u s1 hh => ?_) ht
  obtain ⟨x, H1, I1, rx, a, C, f, d, fd, sp, rfl, T, M, ha, hd, FO, hb, q⟩ := hh
  obtain rfl : u = Value.ref a := rx
  obtain ⟨mm, fr⟩ := I1.fr
  obtain ⟨oe, vs, ho, hz, hv⟩ := ha.obj I1
  have nc : PySem.W.notCls oe = true := by unfold PySem.W.notCls; rw [hv] <;> rfl
  have go : wpAny (model X.prog X.w) X.A (callWith pos (Value.ref f) [Value.ref a] (backTo pos (starEach [] X.env)) []) (EP X pins σ Q) X.xe s1 :=
    PySem.W.callWith_K0 (first := [.ref a]) I1.kIn M.kp (run_fn (us := [.ref a]) (vs := [.ref a]) FO hr hb .nil pass0 I1 (.cons rfl .nil) q)
  cases d with
  | none =>
    have J : PySem.W.InstAt s1.heap a oe C none := ⟨ho, hz.1, nc, by rw [hz.2]; trivial⟩
    exact PySem.W.method_exc fr I1.ok.mod.kin J T.ga T.gg M.at_ M.fn rfl go
  | some dx =>
    obtain ⟨fs, e, hl⟩ := hd dx rfl
    obtain ⟨mA, hns, rel⟩ := exd_at I1.hok e
    obtain ⟨od, ho2, hk⟩ := lookIn_ns hns
    have J : PySem.W.InstAt s1.heap a oe C (some od) := ⟨ho, hz.1, nc, by rw [hz.2]; exact ho2⟩
    have hm : mA m = none := by
      have z := rel m
      rw [hl] at z
      cases y : mA m with
      | none => rfl
      | some v => rw [y] at z; exact z.elim
    exact PySem.W.method_exc fr I1.ok.mod.kin J T.ga T.gg M.at_ M.fn (by show (PySem.W.lookIn m od).map _ = _; rw [hk, hm]; rfl) go

/-! ### made without own __init__, of nothing -/
theorem pe_bare {X : Cx} {C : Addr} {bmB : List Value} {B newId initId : String} {x : Str} {p pos : Pos} (F : ExcBaseFacts B newId initId bmB)
    (q : PySem.W.excIn X.K C bmB newId = true) (gC : X.mg x = some (.ref C)) (kC : PySem.W.keepIn X.K (.ref C) = true) (hg : Gl X x)
    (hdb : (x == ("__debug__" : Str)) = false := by decide +kernel) :
    PE X (.Call (.Name x p) [] [] pos) (fun _ H Q => ∀ a, H a = none → Q (.ref a) (upd H a (ExO (.ref C) a))) := by
  refine ⟨fun pins s σ H Q I h => ?_⟩
  refine wpAny_Call_Name_kw (ld_glob I hg gC ?_ hdb)
  refine PySem.W.callWith_K0 I.kIn kC ?_
  show wpAny _ _ (call (.ref C) []) _ _ _
  obtain ⟨bm, N, nm, qn, bs, hdct, sn, sub, ab, col, dd, k0, k1, k2, k3, k5, mN, hC, hN, hni, T⟩ := exc_obj I.kIn q
  refine wpAny_call_exc_subT F T hC hN hni (fun h' a hm => ?_) (Nat.zero_le _)
  have hn : H a = none := I.hok.gone hm.new
  obtain ⟨t, ht, _, _⟩ := hm.there
  exact ⟨.ref a, _, I.laidN hm.keeps hm.new hn (exO_ok ht ⟨rfl, rfl⟩ rfl rfl rfl (show 4 < 6 by decide)), rfl, h a hn⟩

/-! ### by a weaker reading -/
theorem PE.imp {X : Cx} {e : Expr} {t t' : TE} (h : PE X e t) (f : ∀ σ H Q, t' σ H Q → t σ H Q) : PE X e t' := ⟨fun pins s σ H Q I q => h.run pins s σ H Q I (f σ H Q q)⟩
theorem PSs.imp {X : Cx} {e : List Stmt} {t t' : TS} (h : PSs X e t) (f : ∀ D σ H, t' D σ H → t D σ H) : PSs X e t' := ⟨fun pins s σ H D I q => h.run pins s σ H D I (f D σ H q)⟩
/-- a reading that may be weakened -/
def up (t : TE) : TE := fun σ H Q => ∃ Q0, t σ H Q0 ∧ ∀ v H', Q0 v H' → Q v H'
theorem PE.up {X : Cx} {e : Expr} {t : TE} (h : PE X e t) : PE X e (Lf.up t) := ⟨fun pins s σ H Q I q => by
  obtain ⟨Q0, q, k⟩ := q
  exact thn (h.run pins s σ H Q0 I q) fun u s1 r => by
    obtain ⟨v, H', I', rv, z⟩ := r
    exact ⟨v, H', I', rv, k v H' z⟩⟩
/-- a class (or another thing) of the module by its name -/
theorem pe_cl {X : Cx} {x : Str} {a : Addr} {pos : Pos} (hg : Gl X x) (hm : X.mg x = some (.ref a)) (hd : (x == ("__debug__" : Str)) = false := by decide +kernel) : PE X (.Name x pos) (tC (.ref a)) := pe_glob hg hm rfl hd
/-- an int of the module by its name -/
theorem pe_gint {X : Cx} {x : Str} {i : Int} {t : Tok} {pos : Pos} (hg : Gl X x) (hm : X.mg x = some (.int i t)) (hd : (x == ("__debug__" : Str)) = false := by decide +kernel) : PE X (.Name x pos) (tC (.int i)) := pe_glob hg hm ⟨t, rfl⟩ hd
theorem same_upd {H : Hp} {p : Addr} {o : HO} (n : H p = none) : Same H (upd H p o) := fun b u e => by rw [upd_ne (ne_of_none e n)]; exact e

/-! ### a def of the module, called by its name -/
structure Def (P : Program) (w : World) (K : PySem.W.Frag) (mg : Str → Option Value) (base : Heap) (CX : CXT) (k : Nat) (x : Str) (ps : List Str) (sp : Sp) : Prop where
  ex : ∃ f fd, mg x = some (.ref f) ∧ PySem.W.keepIn K (.ref f) = true ∧ FnOk P w K mg base CX k f fd ps sp ∧ Binds K fd ps []
section
variable {X : Cx} {CX : CXT} {k : Nat} {x : Str} {ps : List Str} {sp : Sp} {E : XK} {e : Expr} {es : List Expr} {t : TA} {p pos : Pos}
theorem pe_def (D : Def X.prog X.w X.K X.mg X.base CX k x ps sp) (hr : Room k X.A) (hx : Passes CX X E) (hg : Gl X x) (ha : PA X (e :: es) t)
    (hdb : (x == ("__debug__" : Str)) = false := by decide +kernel) (he : starEach (e :: es) X.env = (false, eval e X.env) :: starEach es X.env := by rfl)
    (hpl : (backTo pos (starEach es X.env)).any (·.1) = false := by rfl) : PE X (.Call (.Name x p) (e :: es) [] pos) (fun σ H Q => t σ H fun vs H1 => sp vs H1 Q E) := by
  obtain ⟨f, fd, g, kp, F, b⟩ := D.ex
  exact PE.imp (pe_call F hr hg g kp b .nil hx ha hdb he hpl) fun σ H Q h => by
    show t σ H fun vs H1 => sp (vs ++ []) H1 Q E
    simpa only [List.append_nil] using h
theorem pe_def0 (D : Def X.prog X.w X.K X.mg X.base CX k x ps sp) (hr : Room k X.A) (hx : Passes CX X E) (hg : Gl X x)
    (hdb : (x == ("__debug__" : Str)) = false := by decide +kernel) : PE X (.Call (.Name x p) [] [] pos) (fun _ H Q => sp [] H Q E) := by
  obtain ⟨f, fd, g, kp, F, b⟩ := D.ex
  exact pe_call0 F hr hg g kp b .nil hx hdb
end

/-! ### told, __init__ -/
def spTold (t : Str) : Sp := fun vs H Q _ => ∃ v, vs = [v] ∧ Q (.str t) H
def spIni1 (C : Addr) (f : Str) : Sp := fun vs H Q _ => ∃ a v, vs = [.ref a, v] ∧ H a = some (exo a C none) ∧
  ∀ d, H d = none → d ≠ a → Q .non (upd (upd H d (exd d [(f, v)])) a (exo a C (some d)))
def spIni2 (C : Addr) (f g : Str) : Sp := fun vs H Q _ => ∃ a v u, vs = [.ref a, v, u] ∧ H a = some (exo a C none) ∧
  ∀ d, H d = none → d ≠ a → Q .non (upd (upd (upd H d (exd d [(f, v)])) a (exo a C (some d))) d (exd d [(g, u), (f, v)]))
section
variable {P : Program} {w : World} {K : PySem.W.Frag} {mg : Str → Option Value} {base : Heap} {C f : Addr} {fd : FuncData} {q : Str} {a : Arguments} {sc : Scope}
theorem vis_of {N ps : List Str} (S : FnScope N ps sc) {x : Str} (h : x ∈ ps) : Vis sc x := by
  rcases S.par x h with e | e
  · exact .inl e
  · exact .inr (.inl e)
theorem told_ok {t : Str} {j : Nat} {p p2 : Pos} (F : FunD K "told" q a [.Return (some (.Constant (.str t) j p)) p2] sc [] [] f fd) (S : FnScope ["self"] ["self"] sc) :
    FnOk P w K mg base CX0 1 f fd ["self"] (spTold t) := by
  refine F.ok S (fun vs H Q E h => ?_) (fun cdv A outer s H vs Q E hr h => ⟨_, PSs.nox (pss_one (ps_ret pe_str)), ?_⟩)
  · obtain ⟨v, rfl, _⟩ := h
    rfl
  · obtain ⟨v, rfl, k⟩ := h
    exact k
theorem ini1_ok {fl : Str} {p1 p2 p3 p4 : Pos} (T : OexC K C) (no : PySem.W.findIn K (.ref C) fl = some none)
    (F : FunD K "__init__" q a [.Assign [.Attribute (.Name "self" p1) fl p2] (.Name fl p3) p4] sc [] [] f fd) (S : FnScope ["self", fl] ["self", fl] sc)
    (d1 : (fl == ("__debug__" : Str)) = false := by decide +kernel) (d2 : (fl == ("__classdict__" : Str)) = false := by decide +kernel) :
    FnOk P w K mg base CX0 1 f fd ["self", fl] (spIni1 C fl) := by
  refine F.ok S (fun vs H Q E h => ?_) (fun cdv A outer s H vs Q E hr h => ⟨_, PSs.nox (pss_one (ps_ost (pe_var (i := 0) rfl (vis_of S (by simp))) (pe_var (i := 1) rfl (vis_of S (by simp)) d1 d2))), ?_⟩)
  · obtain ⟨a, v, rfl, _⟩ := h
    rfl
  · obtain ⟨a, v, rfl, e, k⟩ := h
    exact ⟨_, rfl, _, rfl, a, C, rfl, T, no, .inl ⟨e, fun dx n ne => k dx n ne⟩⟩
theorem ini2_ok {fl gl : Str} {p1 p2 p3 p4 q1 q2 q3 q4 : Pos} (T : OexC K C) (no : PySem.W.findIn K (.ref C) fl = some none) (no2 : PySem.W.findIn K (.ref C) gl = some none)
    (F : FunD K "__init__" q a [.Assign [.Attribute (.Name "self" p1) fl p2] (.Name fl p3) p4, .Assign [.Attribute (.Name "self" q1) gl q2] (.Name gl q3) q4] sc [] [] f fd) (S : FnScope ["self", fl, gl] ["self", fl, gl] sc)
    (d1 : (fl == ("__debug__" : Str)) = false := by decide +kernel) (d2 : (fl == ("__classdict__" : Str)) = false := by decide +kernel)
    (d3 : (gl == ("__debug__" : Str)) = false := by decide +kernel) (d4 : (gl == ("__classdict__" : Str)) = false := by decide +kernel) :
    FnOk P w K mg base CX0 1 f fd ["self", fl, gl] (spIni2 C fl gl) := by
  refine F.ok S (fun vs H Q E h => ?_) (fun cdv A outer s H vs Q E hr h => ⟨_, PSs.nox (pss_cons (ps_ost (pe_var (i := 0) rfl (vis_of S (by simp))) (pe_var (i := 1) rfl (vis_of S (by simp)) d1 d2))
    (pss_one (ps_ost (pe_var (i := 0) rfl (vis_of S (by simp))) (pe_var (i := 2) rfl (vis_of S (by simp)) d3 d4)))), ?_⟩)
  · obtain ⟨a, v, u, rfl, _⟩ := h
    rfl
  · obtain ⟨a, v, u, rfl, e, k⟩ := h
    exact ⟨_, rfl, _, rfl, a, C, rfl, T, no, .inl ⟨e, fun dx n ne => ⟨_, rfl, _, rfl, a, C, rfl, T, no2, .inr ⟨dx, _, upd_same, by rw [upd_ne ne]; exact upd_same, (by show 1 ≤ 900; decide), k dx n ne⟩⟩⟩⟩
end

/-! ### an error class with all that is told of it -/
section
variable (P : Program) (w : World) (K : PySem.W.Frag) (mg : Str → Option Value) (base : Heap)
structure Tells (C : Addr) (t : Str) : Prop where
  ex : ∃ f fd, Meth K C "told" f ∧ FnOk P w K mg base CX0 1 f fd ["self"] (spTold t) ∧ Binds K fd ["self"] []
/-- the class x, made of one thing, its field -/
structure Err1 (x fl t : Str) : Prop where
  g : mg x = some (.ref (He.ga K x))
  c : ErrC K (He.ga K x)
  no : PySem.W.findIn K (.ref (He.ga K x)) fl = some none
  tl : Tells P w K mg base (He.ga K x) t
  ini : ∃ fI fd, PySem.W.findIn K (.ref (He.ga K x)) "__init__" = some (some (.ref fI)) ∧ PySem.W.typeIn K (.ref fI) = some (.type "function") ∧
    FnOk P w K mg base CX0 1 fI fd ["self", fl] (spIni1 (He.ga K x) fl) ∧ Binds K fd ["self", fl] []
structure Err2 (x fl gl t : Str) : Prop where
  g : mg x = some (.ref (He.ga K x))
  c : ErrC K (He.ga K x)
  no : PySem.W.findIn K (.ref (He.ga K x)) fl = some none
  no2 : PySem.W.findIn K (.ref (He.ga K x)) gl = some none
  tl : Tells P w K mg base (He.ga K x) t
  ini : ∃ fI fd, PySem.W.findIn K (.ref (He.ga K x)) "__init__" = some (some (.ref fI)) ∧ PySem.W.typeIn K (.ref fI) = some (.type "function") ∧
    FnOk P w K mg base CX0 1 fI fd ["self", fl, gl] (spIni2 (He.ga K x) fl gl) ∧ Binds K fd ["self", fl, gl] []
/-- made of nothing -/
structure Err0 (x t : Str) : Prop where
  g : mg x = some (.ref (He.ga K x))
  c : ErrC K (He.ga K x)
  ec : PySem.W.excIn K (He.ga K x) He.veBase "ValueError.__new__" = true
  tl : Tells P w K mg base (He.ga K x) t
end
section
variable {X : Cx} {x fl gl t : Str} {e e2 : Expr} {ta tb : TE} {p pos : Pos}
theorem pe_err1 (E : Err1 X.prog X.w X.K X.mg X.base x fl t) (hr : Room 2 X.A) (hg : Gl X x) (ha : PE X e ta) (hdb : (x == ("__debug__" : Str)) = false := by decide +kernel)
    (hs : starEach [e] X.env = (false, eval e X.env) :: starEach [] X.env := by rfl) :
    PE X (.Call (.Name x p) [e] [] pos) (fun σ H Q => ta σ H fun v H1 => ∀ a d H', H1 a = none → H1 d = none → Same H1 H' → XAt H' a (He.ga X.K x) (some d) → H' d = some (exd d [(fl, v)]) → Q (.ref a) H') := by
  obtain ⟨fI, fd, i1, i2, F, b⟩ := E.ini
  refine PE.imp (pe_new E.c.o i1 i2 F hr b pass0 hg E.g (pa_cons (PE.up ha) pa_nil hs) hdb hs rfl) fun σ H Q h => ?_
  refine ⟨_, h, fun v H1 k => ⟨(by show 1 ≤ 1000; decide), fun a na => ⟨a, v, rfl, upd_same, fun d nd ne => ?_⟩⟩⟩
  have nd1 : H1 d = none := by rw [upd_ne ne] at nd; exact nd
  refine ⟨rfl, k a d _ na nd1 (fun b o q => ?_) (.inl upd_same) (by rw [upd_ne ne]; exact upd_same)⟩
  rw [upd_ne (ne_of_none q na), upd_ne (ne_of_none q nd1), upd_ne (ne_of_none q na)]
  exact q
theorem pe_err2 (E : Err2 X.prog X.w X.K X.mg X.base x fl gl t) (hr : Room 2 X.A) (hg : Gl X x) (ha : PE X e ta) (hb : PE X e2 tb) (hdb : (x == ("__debug__" : Str)) = false := by decide +kernel)
    (hs : starEach [e, e2] X.env = (false, eval e X.env) :: starEach [e2] X.env := by rfl) (hs2 : starEach [e2] X.env = (false, eval e2 X.env) :: starEach [] X.env := by rfl)
    (hp : (backTo pos (starEach [e2] X.env)).any (·.1) = false := by rfl) :
    PE X (.Call (.Name x p) [e, e2] [] pos) (fun σ H Q => ta σ H fun v H0 => Lf.up tb σ H0 fun u H1 => ∀ a d H', H1 a = none → H1 d = none → Same H1 H' → XAt H' a (He.ga X.K x) (some d) → H' d = some (exd d [(gl, u), (fl, v)]) → Q (.ref a) H') := by
  obtain ⟨fI, fd, i1, i2, F, b⟩ := E.ini
  refine PE.imp (pe_new E.c.o i1 i2 F hr b pass0 hg E.g (pa_cons (PE.up ha) (pa_cons (PE.up hb) pa_nil hs2) hs) hdb hs hp) fun σ H Q h => ?_
  refine ⟨_, h, fun v H0 h2 => ?_⟩
  obtain ⟨Q0, h3, h4⟩ := h2
  refine ⟨Q0, h3, fun u H1 z => ?_⟩
  have k := h4 u H1 z
  refine ⟨(by show 2 ≤ 1000; decide), fun a na => ⟨a, v, u, rfl, upd_same, fun d nd ne => ?_⟩⟩
  have nd1 : H1 d = none := by rw [upd_ne ne] at nd; exact nd
  refine ⟨rfl, k a d _ na nd1 (fun b o q => ?_) (.inl (by rw [upd_ne ne.symm]; exact upd_same)) upd_same⟩
  rw [upd_ne (ne_of_none q nd1), upd_ne (ne_of_none q na), upd_ne (ne_of_none q nd1), upd_ne (ne_of_none q na)]
  exact q
theorem pe_err0 (E : Err0 X.prog X.w X.K X.mg X.base x t) (hg : Gl X x) (hdb : (x == ("__debug__" : Str)) = false := by decide +kernel) :
    PE X (.Call (.Name x p) [] [] pos) (fun _ H Q => ∀ a H', H a = none → Same H H' → XAt H' a (He.ga X.K x) none → Q (.ref a) H') :=
  PE.imp (pe_bare F.excBase_ValueError E.ec E.g E.c.o.kC hg hdb) fun σ H Q h a na => h a _ na (same_upd na) (.inr ⟨rfl, upd_same⟩)
end
end Lf

set_option Elab.async false
set_option linter.all false
set_option maxRecDepth 100000
set_option maxHeartbeats 4000000
/-! set(xs) of distinct texts, however many; how many there are. -/
namespace Lf
open PySem PySem.Spec PyProof.Rows L2
abbrev HasS (P : Program) (w : World) (h : Heap) (a : Addr) (xs : List Str) (i : Nat) : Prop := h.SetOf (PySem.strKind P w) a (fun y => (xs.take i).any (· == y)) i
theorem take_next {xs : List Str} (nd : xs.Nodup) {i : Nat} (hi : i < xs.length) :
    (xs.take i).any (· == xs.getD i Str.empty) = false ∧ ∀ y, ((xs.take i).any (· == y) || decide (y = xs.getD i Str.empty)) = (xs.take (i + 1)).any (· == y) := by
  have eg : xs.getD i Str.empty = xs[i] := by simp [List.getD, hi]
  rw [eg]
  have split : xs.take (i + 1) = xs.take i ++ [xs[i]] := by simp
  constructor
  · rw [List.any_eq_false]
    intro y hy hb
    have e : y = xs[i] := by simpa using hb
    subst e
    obtain ⟨j, hj, ej⟩ := List.mem_iff_getElem.mp hy
    rw [List.length_take] at hj
    have ej2 : xs[j] = xs[i] := by rw [← ej, List.getElem_take]
    have ji : j < i := by omega
    exact absurd ej2 (List.pairwise_iff_getElem.mp nd j i (by omega) hi ji)
  · intro y
    rw [split, List.any_append]
    congr 1
    by_cases e : y = xs[i]
    · subst e; simp
    · have q : (xs[i] == y) = false := beq_eq_false_iff_ne.mpr fun z => e z.symm
      simp [e, q]
section
variable {P : Program} {w : World} {A : Around} {R : Result → Shared → Prop} {It : Addr} {fp wr : List Addr} {G : Array GenState → Array GenState → Prop} {n : Nat} {Pv : Nat → Value → Prop} {Sv : Nat → Shared → Prop}
/-- the loop that fills a set: distinct texts -/
theorem fillS (W : WalksS P w A.in1 It fp wr G n Pv Sv) {a : Addr} (off : a ∉ fp) {xs : List Str} (nd : xs.Nodup) (len : xs.length = n) (few : n + 1 < scanBound)
    (read : ∀ i v, Pv i v → ∃ t, v = .str (xs.getD i Str.empty) t) : ∀ (m i : Nat) (s : Shared), i + m = n → Sv i s → HasS P w s.heap a xs i →
      (∀ s', Moved (a :: wr) G s s' → HasS P w s'.heap a xs n → R (.ok (.ret .none)) s') →
      codeAny (model P w) A (.builtin "set.update.loop" ⟨[.ref a, .ref It], []⟩) R s := by
  have offw : a ∉ wr := fun z => off (W.sub _ z)
  have keep : ∀ {s s' : Shared} {i : Nat}, Moved wr G s s' → HasS P w s.heap a xs i → HasS P w s'.heap a xs i := fun mv hs => by
    obtain ⟨o, es, ep, t, ho, r⟩ := hs
    exact ⟨o, es, ep, t, mv.heap a _ offw ho, r⟩
  intro m
  induction m with
  | zero =>
    intro i s e st hs fin
    obtain rfl : i = n := by omega
    refine codeAny_builtin PyProof.Rows.F.entry_set_update_loop ?_
    rw [Around.under_plainId PyProof.Rows.F.plain_set_update_loop _]
    show wpAny _ _ (pyNext (.ref It) >>= _) _ _ _
    exact wpAny_bind (W.done s _ _ st fun s' mv => wpAny_pure (fin s' (mv.mono fun b hb => List.mem_cons_of_mem _ hb) (keep mv hs)))
  | succ m ih =>
    intro i s e st hs fin
    have hi : i < n := by omega
    refine codeAny_builtin PyProof.Rows.F.entry_set_update_loop ?_
    rw [Around.under_plainId PyProof.Rows.F.plain_set_update_loop _]
    show wpAny _ _ (pyNext (.ref It) >>= _) _ _ _
    refine wpAny_bind (W.item i s _ _ hi st fun v s' pv st' mv => ?_)
    obtain ⟨t, rfl⟩ := read i v pv
    have hs' := keep mv hs
    obtain ⟨new, grow⟩ := take_next nd (show i < xs.length by omega)
    show wpAny _ _ (holding [Value.str _ t] (setAdd a (.str _ t)) >>= _) _ _ _
    refine wpAny_bind (wpAny_holding ?_)
    unfold setAdd
    refine wpAny_holding (wpAny_bind ((PySem.strKind P w).pyHash (strKind_is _ _ _ _) ?_))
    refine wpAny_setAddHashed_of (knd := PySem.strKind P w) (s := { s' with toks := s'.toks + 1 }) (strKind_is _ _ _ _) rfl hs' (by omega) fun h' sb hs2 => ?_
    have hs3 : HasS P w h' a xs (i + 1) := SetOf_congr hs2 grow (by show (if (xs.take i).any (· == xs.getD i Str.empty) = true then i else i + 1) = i + 1; rw [new]; rfl)
    refine wpAny_pure ⟨plainId_quiet PyProof.Rows.F.plain_set_update_loop _, ih (i + 1) _ (by omega) (W.frame _ s' _ _ st' (Nat.le_succ _) fun b hb o z => ?_) hs3 fun s2 mv2 q => fin s2 ?_ q⟩
    · rw [sb.2 b fun y => off (y ▸ hb)]
      exact z
    · refine Moved.trans W.gtrans ((mv.mono fun b hb => List.mem_cons_of_mem _ hb).then_heap (Nat.le_succ _) fun b o hb z => ?_) mv2
      rw [sb.2 b fun y => hb (by rw [y]; exact List.mem_cons_self)]
      exact z
end
/-- an empty set, newly laid -/
abbrev emptySet (led : Bool) : Obj := { cls := .type "set", dict := none, data := .set #[] 0 (.fresh 0 0 led) }
section
variable {P : Program} {w : World} {A : Around} {E : Value → Shared → Prop} {s : Shared} {l : Addr} {its : Array Value} {xs : List Str}
/-- what is wanted of it: a set at the next place, of these texts; all else as it was -/
abbrev SetMade (P : Program) (w : World) (s : Shared) (xs : List Str) (s' : Shared) : Prop :=
  ∃ h' tk, s' = { s with heap := h', toks := tk } ∧ HasS P w h' s.heap.objs.size xs xs.length ∧ ∀ b o, b < s.heap.objs.size → s.heap.get? b = some o → h'.get? b = some o
theorem setInit {led : Bool} {Q : Fin → Shared → Prop} (calm : A.handled = none) (hl : s.heap.IsList l its) (ht : StrsAre its.toList xs) (nd : xs.Nodup) (few : xs.length + 1 < scanBound)
    (h : ∀ s', SetMade P w s xs s' → Q (.done (.ret .none)) s') :
    wpAny (model P w) A (Builtin.«set.__init__» ⟨[.ref s.heap.objs.size, .ref l], []⟩) Q E { s with heap := s.heap.push (emptySet led) } := by
  obtain ⟨⟨oc, od, odt, osl⟩, hol, hcl, nl, hdl⟩ := hl
  dsimp only at hcl hdl
  subst hcl hdl
  have hS : (s.heap.push (emptySet led)).get? s.heap.objs.size = some (emptySet led) := Heap.get?_push_size _ rfl
  have hT : Shared.TypeIs { s with heap := s.heap.push (emptySet led) } (.ref s.heap.objs.size) "set" := ⟨_, hS, rfl⟩
  have hol' : (s.heap.push (emptySet led)).get? l = some { cls := .type "list", dict := od, data := .seq its nl, slots := osl } := Heap.get?_push_of_some _ hol
  have f1 := F.sub_list_set
  have f2 := F.sub_list_frozenset
  have f3 : (Value.type "list" == Value.type "dict") = false := by decide
  have hl1 : (s.heap.push (emptySet led)).IsList l its := ⟨_, hol', rfl, nl, rfl⟩
  unfold Builtin.«set.__init__» noKeywords Builtin.Frozenset.updateFrom
  generalize hPI : pyIter = PI
  wp_walk
  subst hPI
  refine wpAny_pyIter_list hl1 (wpAny_bind (wpAny_runValue ?_))
  have lS : l < s.heap.objs.size := Heap.lt_size hol
  have calm3 : A.in1.handled = none := by simp [calm]
  have nI : l ≠ (s.heap.push (emptySet led)).objs.size := by
    rw [Heap.size_push]
    exact Nat.ne_of_lt (Nat.lt_succ_of_lt lS)
  have off : s.heap.objs.size ∉ [(s.heap.push (emptySet led)).objs.size, l] := by
    rw [Heap.size_push]
    simp only [List.mem_cons, List.not_mem_nil, or_false, not_or]
    exact ⟨Nat.ne_of_lt (Nat.lt_succ_self _), Nat.ne_of_gt lS⟩
  have sz : xs.length = its.size := by rw [← StrsAre.len_eq ht, Array.length_toList]
  refine fillS ((Walks.list calm3 _ l nI its).toS) off nd sz (by omega) (fun i v hv => SS.strs_at ht i v (by rw [Array.getElem?_toList]; exact hv)) its.size 0 _ (Nat.zero_add _) ?_ ?_ fun s' mv q => ?_
  · exact ⟨⟨_, Heap.get?_push_size _ rfl, rfl, rfl⟩, hl1.push _⟩
  · exact SetOf_congr ((setObjOf_fresh (knd := PySem.strKind P w) led).setOf (Heap.get?_push_of_some _ hS) (by unfold scanBound; omega)) (fun _ => rfl) rfl
  · obtain ⟨h', g', d', tk', os'⟩ := s'
    obtain rfl : g' = s.gens := mv.gens
    obtain rfl : d' = s.drawn := mv.drawn
    obtain rfl : os' = s.os := mv.os
    show wpAny _ _ _ _ _ _
    refine wpAny_pure ?_
    show wpAny _ _ (ret Value.none) _ _ _
    refine wpAny_pure (h _ ⟨h', tk', rfl, by rw [sz]; exact q, fun b o hb z => mv.heap b o ?_ (Heap.get?_push_of_some _ (Heap.get?_push_of_some _ z))⟩)
    simp only [List.mem_cons, List.not_mem_nil, or_false, not_or]
    rw [Heap.size_push]
    exact ⟨Nat.ne_of_lt hb, Nat.ne_of_lt (Nat.lt_succ_of_lt hb)⟩
theorem setOfTexts {Q : Value → Shared → Prop} (calm : A.handled = none) (hl : s.heap.IsList l its) (ht : StrsAre its.toList xs) (nd : xs.Nodup) (few : xs.length + 1 < scanBound)
    (h : ∀ s', SetMade P w s xs s' → Q (.ref s.heap.objs.size) s') : wpAny (model P w) A (call (.type "set") [.ref l]) Q E s := by
  obtain ⟨c, tl, mro⟩ := F.called_set.mro
  have g1 := F.called_set.made
  have g2 := F.called_set.sub
  refine wpAny_call (codeAny_of_tree ?_)
  show wpAny _ _ (callAny (.type "set") _) _ _ _
  refine wpAny_pure ⟨Code.quiet_builtin _ (by decide +kernel), codeAny_builtin F.entry_type_call ?_⟩
  rw [Around.under_plain (weight_type_call_type "set" [.ref l] []) rfl]
  have g3 := F.called_set.notType
  have g4 := F.called_set.canCreate
  have g5 := F.typeCall_set_1 (.ref l)
  repeat (any_goals (first | assumption | wp_step))
  refine codeAny_mono (code_set_new_1 (.ref l) (E := E) (Q₁ := fun o s1 => ∃ led : Bool, o = .ref s.heap.objs.size ∧ s1 = { s with heap := s.heap.push (emptySet led) }) fun led => ⟨led, rfl, rfl⟩) fun r s1 hr => ?_
  cases r with
  | error e => exact hr
  | ok fl =>
    cases fl with
    | ret o =>
      obtain ⟨led, rfl, rfl⟩ := hr
      have hT : Shared.TypeIs { s with heap := s.heap.push (emptySet led) } (.ref s.heap.objs.size) "set" := ⟨_, Heap.get?_push_size _ rfl, rfl⟩
      have g6 := F.called_set.init.lookup
      have g7 := F.called_set.init.bind (.ref s.heap.objs.size)
      repeat (any_goals (first | assumption | wp_step))
      refine codeAny_mono (codeAny_call_builtin (R := wants (fun r s2 => r = .none ∧ SetMade P w s xs s2) E) F.called_set.init.plain F.entry_set_init (check_set_init_1 hT (setInit (by simp [calm]) hl ht nd few fun s2 q => ⟨rfl, q⟩))) fun r2 s2 hr2 => ?_
      cases r2 with
      | error e => exact hr2
      | ok f2 =>
        cases f2 with
        | ret v =>
          obtain ⟨rfl, q⟩ := hr2
          repeat (any_goals (first | assumption | wp_step))
          exact h _ q
        | _ => exact hr2.elim
    | _ => exact hr.elim
end
/-- len(set(xs)), xs a list of distinct texts -/
def tCount (K : PySem.W.Frag) (ta : TE) : TE := fun σ H Q => ta σ H fun x H1 => ∃ (l : Addr) (xs : List Str), x = .ref l ∧ SqL K H1 l (xs.map V.str) ∧ xs.Nodup ∧ xs.length ≤ 4000 ∧ Q (.int xs.length) H1
theorem pe_count {X : Cx} {a : Expr} {ta : TE} {p p2 q pos : Pos} (hc : X.calm = true) (hg : Gl X "len") (hm : X.mg "len" = none) (hg2 : Gl X "set") (hm2 : X.mg "set" = none) (ha : PE X a ta)
    (na : starEach [a] X.env = (false, eval a X.env) :: starEach [] X.env := by rfl) : PE X (.Call (.Name "len" p) [.Call (.Name "set" p2) [a] [] q] [] pos) (tCount X.K ta) := by
  refine ⟨fun pins s σ H Q I h => ?_⟩
  refine Call_ (ld_blt I hg hm boot_len (PyProof.Rows.callWith_builtin1 (PyProof.Rows.args_cons ?_ rfl) rfl rfl))
  refine Call_ (ld_blt I hg2 hm2 boot_set (PyProof.Rows.callWith_type1 (PyProof.Rows.args_cons (thn (ha.run pins s σ H _ I h) fun v s1 hh => PyProof.Rows.args_nil ?_) na) na rfl))
  obtain ⟨x, H1, I1, r1, l, xs, rfl, hq, nd, few, q1⟩ := hh
  cases r1
  obtain ⟨its, r, pl, hz⟩ := I1.list hq
  refine setOfTexts (I1.ok.hd hc) pl.isList (by simpa using strsAre_of r) nd (by unfold scanBound; omega) fun s' hs => PyProof.Rows.args_nil ?_
  obtain ⟨h', tk, rfl, ⟨o, es, ep, t, ho, hex, hd, _, _, _, hf, hn⟩, hk⟩ := hs
  have I2 : Inv X pins σ H1 { s1 with heap := h', toks := tk } := I1.kept fun b o z => hk b o (Heap.lt_size z) z
  exact call_len_set ho hex hd hf (by rw [hn]; omega) ⟨.int xs.length, H1, I2.tok _, ⟨_, by rw [hn]⟩, q1⟩
/-- xs + ys, lists that are read -/
def rCatL (K : PySem.W.Frag) : R2 := fun x y H Q => ∃ l b xs zs, x = .ref l ∧ y = .ref b ∧ SqL K H l xs ∧ SqL K H b zs ∧ xs.length + zs.length ≤ sizeLine ∧ ∀ p, H p = none → Q (.ref p) (upd H p (.lst (xs ++ zs)))
theorem op_catL {X : Cx} : OpR X (binaryOp .Add) (rCatL X.K) := by
  intro pins s σ H x y v u Q I rx ry h
  obtain ⟨l, b, xs, zs, rfl, rfl, h1, h2, hz, q⟩ := h
  cases rx
  cases ry
  obtain ⟨is, r1, ⟨⟨c1, d1, t1, s1⟩, n1, e1, k1, _, m1⟩, _⟩ := I.list h1
  obtain ⟨js, r2, ⟨⟨c2, d2, t2, s2⟩, n2, e2, k2, _, m2⟩, _⟩ := I.list h2
  dsimp only at k1 m1 k2 m2
  subst k1 m1 k2 m2
  have l1 := r1.length
  have l2 := r2.length
  refine concat_meets ⟨_, e1, rfl⟩ ⟨_, e2, rfl⟩ noFill_list_add seq_list_add F.slot_list_add F.entry_list_add (F.args_list_add_2 _ _)
    (list_addW l b is.toArray js.toArray n1 n2 d1 d2 s1 s2 (by simp only [List.size_toArray]; omega)) ⟨e1, e2, ?_⟩
  have ea : is.toArray ++ js.toArray = (is ++ js).toArray := by simp
  rw [ea]
  exact ⟨.ref _, _, I.lnew (t' := s.toks) (r1.append r2) (by rw [List.length_append]; omega), rfl, q _ I.fresh⟩
end Lf

set_option Elab.async false
set_option linter.all false
set_option maxRecDepth 100000
set_option maxHeartbeats 4000000
/-! Heaps that grow; data. -/
namespace Lf
open PySem PySem.Spec PyProof.Rows L2
/-- all but lists stay -/
def Solid (H H' : Hp) : Prop := ∀ b o, H b = some o → (∀ xs, o ≠ .lst xs) → H' b = some o
theorem Solid.refl (H : Hp) : Solid H H := fun _ _ h _ => h
theorem Solid.trans {H H1 H2 : Hp} (a : Solid H H1) (b : Solid H1 H2) : Solid H H2 := fun c o h n => b c o (a c o h n) n
theorem Solid.of {H H' : Hp} (e : Same H H') : Solid H H' := fun b o h _ => e b o h
theorem Solid.lst {H : Hp} {l : Addr} {xs ys : List V} (h : H l = some (.lst xs)) : Solid H (upd H l (.lst ys)) := fun b o e n => by
  rw [upd_ne (fun z => by rw [z, h] at e; cases e; exact n xs rfl)]
  exact e
theorem exo_nl {a C : Addr} {d : Option Addr} (xs : List V) : exo a C d ≠ .lst xs := fun z => by
  have z' : HO.ext _ = HO.lst xs := z
  cases z'
theorem exO_nl {a : Addr} {c : Value} (xs : List V) : ExO c a ≠ .lst xs := fun z => by
  have z' : HO.ext _ = HO.lst xs := z
  cases z'
theorem exd_nl {a : Addr} {fs : List (Str × V)} (xs : List V) : exd a fs ≠ .lst xs := fun z => by
  have z' : HO.ext _ = HO.lst xs := z
  cases z'
theorem XAt.solid {H H' : Hp} {a C : Addr} {d : Option Addr} (h : XAt H a C d) (s : Solid H H') : XAt H' a C d := by
  rcases h with h | ⟨e, h⟩
  · exact .inl (s _ _ h exo_nl)
  · exact .inr ⟨e, s _ _ h exO_nl⟩
/-- all but the thing at l stay -/
def But (l : Addr) (H H' : Hp) : Prop := ∀ b o, b ≠ l → H b = some o → H' b = some o
theorem But.refl {l : Addr} {H : Hp} : But l H H := fun _ _ _ h => h
theorem But.trans {l : Addr} {H H1 H2 : Hp} (a : But l H H1) (b : But l H1 H2) : But l H H2 := fun c o n h => b c o n (a c o n h)
theorem But.of {l : Addr} {H H' : Hp} (e : Same H H') : But l H H' := fun b o _ h => e b o h
theorem But.upd {l : Addr} {H : Hp} {o : HO} : But l H (upd H l o) := fun b u n h => by rw [upd_ne n]; exact h
theorem Same.but {l : Addr} {H0 H H' : Hp} (s : Same H0 H) (n : H0 l = none) (b : But l H H') : Same H0 H' := fun c o h => b c o (ne_of_none h n) (s c o h)
theorem SqT.same {K : PySem.W.Frag} {H H' : Hp} {a : Addr} {xs : List V} (e : Same H H') (h : SqT K H a xs) : SqT K H' a xs := by
  rcases h with (h | ⟨o, h⟩) | h
  · exact .inl (.inl (e _ _ h))
  · exact .inl (.inr ⟨o, e _ _ h⟩)
  · exact .inr h
theorem But.solid {l : Addr} {H H' : Hp} {xs : List V} (h : H l = some (.lst xs)) (b : But l H H') : Solid H H' := fun c o e n => b c o (fun z => by rw [z, h] at e; cases e; exact n xs rfl) e
theorem ifT {c : Bool} {A B : Prop} (hc : c = true) (h : A) : if c = true then A else B := by
  rw [if_pos hc]
  exact h
theorem ifF {c : Bool} {A B : Prop} (hc : c = false) (h : B) : if c = true then A else B := by
  rw [hc, if_neg Bool.false_ne_true]
  exact h
theorem pair_get {α β : Type} {F : α → β → Prop} : ∀ {as : List α} {bs : List β} {i : Nat} {a : α}, Paired F as bs → as[i]? = some a → ∃ b, bs[i]? = some b ∧ F a b
  | _, _, _, _, .nil, e => by simp at e
  | _, _, 0, _, .cons r _, e => by simp at e; subst e; exact ⟨_, rfl, r⟩
  | _, _, i + 1, a, .cons _ t, e => by
    obtain ⟨b, h1, h2⟩ := pair_get (i := i) (a := a) t (by simpa using e)
    exact ⟨b, by simpa using h1, h2⟩
theorem take_snoc {α : Type} {l : List α} {i : Nat} {x : α} (h : l[i]? = some x) : l.take (i + 1) = l.take i ++ [x] := by
  obtain ⟨hi, e⟩ := List.getElem?_eq_some_iff.mp h
  rw [← e]
  simp
theorem map_at {α : Type} {f : α → V} {l : List α} {i : Nat} {y : V} (h : (l.map f)[i]? = some y) : ∃ a, l[i]? = some a ∧ y = f a := by
  rw [List.getElem?_map] at h
  cases e : l[i]? with
  | none => rw [e] at h; cases h
  | some a => rw [e] at h; exact ⟨a, rfl, (Option.some.inj h).symm⟩
theorem eqv_same {d : PyData} (h : SeqAt.shaped d = true) : (!PyData.eqv d d) = false := by
  rw [SeqAt.eqv_refl d (SeqAt.canLay_of_shaped h)]
  rfl
mutual
theorem dp_same {K : PySem.W.Frag} {H H' : Hp} (e : Same H H') : ∀ {v : V} {d : PyData}, Dp K H v d → Dp K H' v d
  | _, _, .non => .non
  | _, _, .bl b => .bl b
  | _, _, .int i => .int i
  | _, _, .str x => .str x
  | _, _, .lst h r => .lst (L2.Same.seq e h) (dpAll_same e r)
  | _, _, .tup h r => .tup (SqT.same e h) (dpAll_same e r)
theorem dpAll_same {K : PySem.W.Frag} {H H' : Hp} (e : Same H H') : ∀ {vs : List V} {ds : List PyData}, DpAll K H vs ds → DpAll K H' vs ds
  | _, _, .nil => .nil
  | _, _, .cons h r => .cons (dp_same e h) (dpAll_same e r)
end
end Lf

set_option Elab.async false
set_option linter.all false
set_option maxRecDepth 100000
set_option maxHeartbeats 4000000
/-! for i, x in enumerate(t), t a tuple. -/
namespace Lf
open PySem PySem.Spec PyProof.Rows L2
set_option maxHeartbeats 8000000 in
theorem new_enum {v : Value} {o : Obj} {G : Heap → Prop} (B : Begins v o G) :
    Meets (Builtin.«enumerate.__new__» ⟨[.type "enumerate", v], []⟩) (fun _ R s => G s.heap ∧
      R (.ok (.ret (.ref (s.heap.push o).objs.size)))
        { s with heap := (s.heap.push o).push { cls := .type "enumerate", data := .fields #[.none, .bool false, .ref s.heap.objs.size, rawInt 0, .none, .none] } }) :=
  .of_wp fun prog w A R s hh => by
    obtain ⟨hp, g, d, tk, os⟩ := s
    obtain ⟨hg, fin⟩ := hh
    have sub := sub_enumerate
    have go : ∀ {A' : Around} {E' : Value → Shared → Prop} {Q' : Value → Shared → Prop}, Q' (.ref hp.objs.size) ⟨hp.push o, g, d, tk, os⟩ → wpAny (model prog w) A' (pyIter v) Q' E' ⟨hp, g, d, tk, os⟩ := fun q =>
      B.iter prog w _ _ ⟨hp, g, d, tk, os⟩ _ hg q
    wp_walk using go
    refine wpAny_stack_any fun st => wpAny_pure ?_
    split
    · rename_i c _ _ _ _ _
      cases (c == Value.type "enumerate") <;> (wp_walk using go; exact ⟨_, rfl, fin⟩)
    · wp_walk using go
      exact ⟨_, rfl, fin⟩
theorem call_enum {prog : Program} {w : World} {A : Around} {E : Value → Shared → Prop} {s : Shared} {v : Value} {o : Obj} {G : Heap → Prop} {Q : Value → Shared → Prop} (B : Begins v o G) (hg : G s.heap)
    (h : ∀ h', IsEnum h' (s.heap.objs.size + 1) s.heap.objs.size 0 .none → h'.get? s.heap.objs.size = some o → (∀ b u, s.heap.get? b = some u → h'.get? b = some u) → Q (.ref (s.heap.objs.size + 1)) { s with heap := h' }) :
    wpAny (model prog w) A (call (.type "enumerate") [v]) Q E s := by
  refine callType_new F.called_enumerate (by decide) (F.typeCall_enumerate_1 _) (F.newCall_enumerate_1 _) (fun x => F.args_object_init_2 x _) F.entry_enumerate_new (new_enum B) ⟨hg, ?_⟩
  have sz : (s.heap.push o).objs.size = s.heap.objs.size + 1 := Heap.size_push ..
  show _ ∧ _
  rw [sz]
  let e : Obj := { cls := .type "enumerate", data := .fields #[.none, .bool false, .ref s.heap.objs.size, rawInt 0, .none, .none] }
  have he : IsEnum ((s.heap.push o).push e) (s.heap.objs.size + 1) s.heap.objs.size 0 .none := by
    have z := Heap.get?_push_size (s.heap.push o) (o := e) rfl
    rw [sz] at z
    exact z
  exact ⟨⟨_, he, rfl⟩, h _ he (Heap.get?_push_of_some _ (Heap.get?_push_size _ B.free)) fun b u z => Heap.get?_push_of_some _ (Heap.get?_push_of_some _ z)⟩
/-- the tuple at a as it stands, its items in new pairs with their places -/
def Itet (K : PySem.W.Frag) (a : Addr) : It :=
  ⟨fun i H => ∃ (xs : List V) (x : V), SqT K H a xs ∧ xs[i]? = some x,
    fun i H v H' => ∃ T x, v = .ref T ∧ H T = none ∧ H' = upd H T (.tup [.int (i : Nat), x]) ∧ ∀ xs, SqT K H a xs → xs[i]? = some x,
    fun i H => ∃ xs : List V, SqT K H a xs ∧ xs.length = i⟩
theorem turn_enumT {P : Program} {w : World} {K : PySem.W.Frag} {elts : List Expr} {kk : Nat} {tpos : Pos} (a e it : Addr) :
    Turn P w K (.Tuple elts kk tpos) (Itet K a) [e, it] e (fun i h => (∃ old, IsEnum h e it ((i : Nat) : Int) old) ∧ h.IsTupleIter it a i ∧ e ≠ it ∧ a ≠ it ∧ a ≠ e) where
  mem := List.mem_cons_self
  obj := fun i h st b hb => by
    obtain ⟨⟨old, he⟩, ⟨o, ho, hc, hd⟩, _⟩ := st
    simp only [List.mem_cons, List.not_mem_nil, or_false] at hb
    rcases hb with rfl | rfl
    · exact ⟨_, he, fun v q => nomatch q⟩
    · exact ⟨o, ho, fun v q => by rw [hd] at q; cases q⟩
  keep := fun i h h' st k => by
    obtain ⟨⟨old, he⟩, hi, ne⟩ := st
    exact ⟨⟨old, k e (by simp) _ he⟩, hi.at fun o q => k it (by simp) o q, ne⟩
  item := by
    intro X hP hw hK hc i pins s σ H E I hf st hg
    subst hP hw hK
    obtain ⟨⟨old, he⟩, hit, ne, na, nae⟩ := st
    obtain ⟨xs, x, hq, hx⟩ := hg
    obtain ⟨its, rv, p, hz⟩ := I.tuple hq
    obtain ⟨u, hu, ru⟩ := rv.get hx
    have el : e < s.heap.objs.size := Heap.lt_size he
    have il : it < s.heap.objs.size := by obtain ⟨_, q, _⟩ := hit; exact Heap.lt_size q
    have calm : X.A.in1.handled = none := by have := I.ok.hd hc; simp [this]
    have hlt : i < its.toArray.size := by rw [List.size_toArray, ← rv.length]; exact (List.getElem?_eq_some_iff.mp hx).1
    refine wpAny_pyNext_enum_itemD (Draws.tuple (prog := X.prog) (w := X.w) calm it a na its.toArray) he ⟨hit, p⟩ hlt ne (by simp only [List.mem_cons, List.not_mem_nil, or_false, not_or]; exact ⟨ne, Ne.symm nae⟩) fun y h' tk hy ho st' hT hsz hk => ?_
    have ey : y = u := by
      have h1 : its[i]? = some y := by simpa using hy
      rw [hu] at h1
      exact (Option.some.inj h1).symm
    subst ey
    refine ⟨_, rfl, wpAny_letOwnedTupleGo_enum (s := { s with heap := h', toks := tk + 1 }) ho fun h'' he' sb => ?_⟩
    have hT2 := (sb.2 _ (Nat.ne_of_gt el)).trans hT
    have new : ObjOk X.prog X.w (upd H s.heap.objs.size (.tup [.int (i : Nat), x])) h'' s.heap.objs.size (.tup [.int (i : Nat), x]) :=
      ⟨by show 2 ≤ sizeLine; decide, [.int i tk, y], .cons ⟨_, rfl⟩ (.cons ru .nil), ⟨_, hT2, rfl, _, rfl⟩⟩
    have off : ∀ b, b ∉ [e, it] → b ≠ e ∧ b ≠ it := fun b hb => by
      simp only [List.mem_cons, List.not_mem_nil, or_false, not_or] at hb
      exact hb
    have I1 : Inv X pins σ (upd H s.heap.objs.size (.tup [.int (i : Nat), x])) { s with heap := h'', toks := tk + 1 } :=
      I.turnedNew (ch := [e, it]) (fun b ob hb q => (sb.2 b (off b hb).1).trans (hk b ob (off b hb).1 (off b hb).2 q)) hf (Nat.le_refl _) new
    refine ⟨.ref s.heap.objs.size, _, I1, rfl, ⟨_, x, rfl, I.hok.fresh (Nat.le_refl _), rfl, fun ys hy => by rw [I.tuple_inj hy hq]; exact hx⟩, ⟨⟨y, ?_⟩, st'.1.at fun o q => (sb.2 it (Ne.symm ne)).trans q, ne, na, nae⟩, fun b hb => ?_⟩
    · have z : ((i + 1 : Nat) : Int) = (i : Int) + 1 := by omega
      rw [z]
      exact he'
    · have lt : b < s.heap.objs.size := by
        simp only [List.mem_cons, List.not_mem_nil, or_false] at hb
        rcases hb with rfl | rfl
        · exact el
        · exact il
      rw [upd_ne (Nat.ne_of_lt lt)]
      exact (hf b hb).1
  done := by
    intro X hP hw hK hc i pins s σ H E I hf st hg
    subst hP hw hK
    obtain ⟨⟨old, he⟩, hit, ne, na, nae⟩ := st
    obtain ⟨xs, hq, hx⟩ := hg
    obtain ⟨its, rv, p, hz⟩ := I.tuple hq
    obtain ⟨f0, f1, f2, f3, f4, f5⟩ := hf it (by simp)
    have calm : X.A.in1.handled = none := by have := I.ok.hd hc; simp [this]
    have en : its.toArray.size = i := by rw [List.size_toArray, ← rv.length, hx]
    exact wpAny_pyNext_enum_endD (Draws.tuple (prog := X.prog) (w := X.w) calm it a na its.toArray) he (by rw [en]; exact ⟨hit, p⟩) fun h' eb => ⟨rfl, I.turned (t' := s.toks) (fun b o hb q => eb b o hb q) f0 f1 f3 f4 f5⟩
  self := fun A i s Q E st h => by
    obtain ⟨⟨_, he⟩, _⟩ := st
    exact wpAny_pyIter_enum he h
/-- enumerate(x), x a list or a tuple -/
def iEnumA (K : PySem.W.Frag) (ta : TE) : TI := fun σ H R => ta σ H fun x H1 => ∃ a xs, x = .ref a ∧ ((SqL K H1 a xs ∧ R (Ite K a) H1) ∨ (SqT K H1 a xs ∧ R (Itet K a) H1))
theorem pi_enumA {X : Cx} {e : Expr} {ta : TE} {p pos tpos : Pos} {elts : List Expr} {kk : Nat} (hg : Gl X "enumerate") (hm : X.mg "enumerate" = none) (ha : PE X e ta)
    (hs : starEach [e] X.env = [(false, eval e X.env)] := by rfl) : PI X (.Tuple elts kk tpos) (.Call (.Name "enumerate" p) [e] [] pos) (iEnumA X.K ta) := by
  refine ⟨fun pins s σ H R I h => ?_⟩
  refine Call_ (ld_blt I hg hm boot_enumerate (PyProof.Rows.callWith_type1 (thn ((pa_cons (PE.up ha) pa_nil hs).run pos pins s σ H (fun vs H1 => ∃ x, vs = [x] ∧ ∃ a xs, x = .ref a ∧ ((SqL X.K H1 a xs ∧ R (Ite X.K a) H1) ∨ (SqT X.K H1 a xs ∧ R (Itet X.K a) H1))) I ?_) fun us s1 hh => ?_) hs rfl))
  · exact ⟨_, h, fun v H' z => ⟨v, rfl, z⟩⟩
  obtain ⟨vs, H1, I1, r1, x, rfl, a, xs, rfl, q1⟩ := hh
  cases r1 with
  | cons r rr =>
    cases rr
    cases r
    have fp : ∀ b ∈ [s1.heap.objs.size + 1, s1.heap.objs.size], s1.heap.objs.size ≤ b := fun b hb => by
      simp only [List.mem_cons, List.not_mem_nil, or_false] at hb
      rcases hb with rfl | rfl
      · exact Nat.le_add_right _ _
      · exact Nat.le_refl _
    rcases q1 with ⟨hq, q⟩ | ⟨hq, q⟩
    · obtain ⟨its, rv, p', hz⟩ := I1.list hq
      refine call_enum (begins_list a its.toArray) p'.isList fun h' he hit hk => wpAny_pyIter_enum he ?_
      exact ⟨s1.heap.objs.size + 1, [s1.heap.objs.size + 1, s1.heap.objs.size], _, _, H1, rfl, I1.kept (t' := s1.toks) hk, turn_enum a (s1.heap.objs.size + 1) s1.heap.objs.size,
        ⟨⟨.none, he⟩, ⟨_, hit, rfl, rfl⟩, Nat.succ_ne_self _⟩, fun b hb => I1.fpOk (fp b hb) (I1.hok.fresh (fp b hb)), q⟩
    · obtain ⟨its, rv, p', hz⟩ := I1.tuple hq
      have al : a < s1.heap.objs.size := p'.lt
      refine call_enum (begins_tuple a its.toArray) p' fun h' he hit hk => wpAny_pyIter_enum he ?_
      exact ⟨s1.heap.objs.size + 1, [s1.heap.objs.size + 1, s1.heap.objs.size], _, _, H1, rfl, I1.kept (t' := s1.toks) hk, turn_enumT a (s1.heap.objs.size + 1) s1.heap.objs.size,
        ⟨⟨.none, he⟩, ⟨_, hit, rfl, rfl⟩, Nat.succ_ne_self _, Nat.ne_of_lt al, Nat.ne_of_lt (Nat.lt_succ_of_lt al)⟩, fun b hb => I1.fpOk (fp b hb) (I1.hok.fresh (fp b hb)), q⟩
/-- it gives each item of xs in a new pair with its place -/
theorem walk_enumT {K : PySem.W.Frag} {a : Addr} {xs : List V} : Walk (Itet K a) xs.length (fun H => SqT K H a xs)
    (fun i H v H' => ∃ T x, v = .ref T ∧ H T = none ∧ H' = upd H T (.tup [.int (i : Nat), x]) ∧ xs[i]? = some x) where
  goes := fun i H hi g => ⟨xs, _, g, List.getElem?_eq_getElem hi⟩
  stops := fun H g => ⟨xs, g, rfl⟩
  yields := fun i H x H' _ g y => by
    obtain ⟨T, z, e, n, eh, f⟩ := y
    exact ⟨T, z, e, n, eh, f xs g⟩
theorem walk_enumL {K : PySem.W.Frag} {a : Addr} {xs : List V} : Walk (Ite K a) xs.length (fun H => SqL K H a xs)
    (fun i H v H' => ∃ T x, v = .ref T ∧ H T = none ∧ H' = upd H T (.tup [.int (i : Nat), x]) ∧ xs[i]? = some x) where
  goes := fun i H hi g => ⟨xs, _, g, List.getElem?_eq_getElem hi⟩
  stops := fun H g => ⟨xs, g, Nat.le_refl _⟩
  yields := fun i H x H' _ g y => by
    obtain ⟨T, z, e, n, eh, f⟩ := y
    exact ⟨T, z, e, n, eh, f xs g⟩
end Lf

set_option Elab.async false
set_option linter.all false
set_option maxRecDepth 100000
set_option maxHeartbeats 8000000
/-! A binary operator by an own method, the other operand of any type; != by an own __eq__. -/
namespace Lf
open PySem PySem.Spec PyProof.Rows L2
section
open PySem.W
variable {prog : Program} {w : World} {A : Around} {E : Value → Shared → Prop} {s : Shared} {K : Frag} {x C L f : Addr} {h₀ : Heap} {m : Str → Option Value} {ox : Obj} {od : Option Obj}
/-- what is to be known of the other operand's type -/
structure Side (K : Frag) (C : Addr) (nm : String) (tb : Value) (right py : Bool) : Prop where
  ne : (Value.ref C == tb) = false
  fills : ∀ (M : Model) (h : Heap), K.In h → Looks M h (fillsNumberSlot tb nm) right
  sub : subIn K tb (.ref C) = some false
  inPy : right = true → ∀ (M : Model) (h : Heap), K.In h → Looks M h (numberSlotInPython tb nm) py
  refl : right = true → py = false → ∃ ro, findIn K tb (dunderR nm) = some ro
theorem bin_other {op : Operator} {b tb : Value} {rc : Option Value} {right py : Bool} {Q : Value → Shared → Prop} (F : Fr h₀ L s.heap m) (X₀ : K.In h₀) (I : InstAt s.heap x ox C od) (hc : selfFirst K C = true)
    (hs : findIn K (.ref C) (PySem.dunder op.info.2) = some (some (.ref f))) (hf : isFn K (.ref f) = true) (hr : findIn K (.ref C) (dunderR op.info.2) = some rc) (hp : rc = none ∨ ∃ g : Addr, rc = some (.ref g))
    (Lb : Looks (model prog w) s.heap (typeOf b) tb) (S : Side K C op.info.2 tb right py)
    (h : wpAny (model prog w) A (call (.ref f) [.ref x, b]) (PySem.W.CmpBack Q) E s) : wpAny (model prog w) A (binaryOp op (.ref x) b) Q E s := by
  have X := X₀.keeps F.keep
  obtain ⟨cd, rest, hcd, hm⟩ := ksp_first hc
  rcases hi : op.info with ⟨sym, nm'⟩
  rw [hi] at hs hr S
  dsimp only at hs hr S
  have one := ksp_try X I hs hf h
  obtain ⟨hh, g, d, tt, os⟩ := s
  have L1 : Looks (model prog w) hh (typeOf (.ref x)) (.ref C) := I.type
  have L3 : Looks (model prog w) hh (fillsNumberSlot (.ref C) nm') true := fills_K X hcd hm hs
  have L4 := S.fills (model prog w) hh X
  have L5 : Looks (model prog w) hh (isSubtype tb (.ref C)) false := looks_subIn X S.sub
  have L6 : Looks (model prog w) hh (numberSlotInPython (.ref C) nm') true := ksp_inPy X hs hr hp
  have hne := S.ne
  simp only [binaryOp, hi]
  refine wpAny_holding (wpAny_bind ?_)
  unfold binaryOp1
  refine wpAny_bind (L1.at (wpAny_bind (Lb.at (wpAny_bind (L3.at ?_)))))
  simp only [hne, Bool.false_eq_true, if_false]
  cases right with
  | false =>
    ksp_lk
    refine wpAny_mono one (fun r s' hr' => ?_) fun _ _ e => e
    obtain ⟨v, rfl, hq⟩ := hr'
    ksp_lk
    exact hq
  | true =>
    have L7 := S.inPy rfl (model prog w) hh X
    cases py with
    | true =>
      ksp_lk
      refine wpAny_mono one (fun r s' hr' => ?_) fun _ _ e => e
      obtain ⟨v, rfl, hq⟩ := hr'
      ksp_lk
      exact hq
    | false =>
      obtain ⟨ro, hro⟩ := S.refl rfl rfl
      have L8 : Looks (model prog w) hh (typeLookup tb (dunderR nm')) ro := looks_findIn X hro
      ksp_lk
      refine wpAny_mono one (fun r s' hr' => ?_) fun _ _ e => e
      obtain ⟨v, rfl, hq⟩ := hr'
      ksp_lk
      exact hq
end

/-- what is known of a class C with a method of its own for op -/
structure OwnOp (K : PySem.W.Frag) (C : Addr) (nm : String) (f : Addr) : Prop where
  first : PySem.W.selfFirst K C = true
  find : PySem.W.findIn K (.ref C) (PySem.dunder nm) = some (some (.ref f))
  fn : PySem.W.isFn K (.ref f) = true
  refl : PySem.W.findIn K (.ref C) (dunderR nm) = some none
def RightOf (K : PySem.W.Frag) (C : Addr) (nm : String) (t : Value) : Prop := t = .ref C ∨ ∃ right py, Side K C nm t right py
def rBin (K : PySem.W.Frag) (C : Addr) (nm : String) (sp : Sp) (E : XK) : R2 := fun x y H Q => ∃ a dx fs t, x = .ref a ∧ H a = some (.ins C dx fs) ∧ TyX K H y t ∧ RightOf K C nm t ∧ sp [.ref a, y] H Q E
theorem cmpBack {X : Cx} {pins : List (Addr × Obj)} {σ : L2.St} {Q : VK} {v : Value} {s : Shared} (h : EP X pins σ Q v s) : PySem.W.CmpBack (EP X pins σ Q) v s := by
  cases v with
  | notImplemented =>
    obtain ⟨z, H, I, r, q⟩ := h
    cases z <;> first | (obtain ⟨_, e⟩ := r; cases e; done) | (cases r; done)
  | _ => exact h
theorem op_own {X : Cx} {CX : CXT} {k : Nat} {f C : Addr} {fd : FuncData} {ps : List Str} {sp : Sp} {E : XK} {op : Operator} (O : OwnOp X.K C op.info.2 f) (F : FnOk X.prog X.w X.K X.mg X.base CX k f fd ps sp) (hr : Room k X.A)
    (hb : L2.Binds X.K fd ps []) (hx : Passes CX X E) : OpR X (binaryOp op) (rBin X.K C op.info.2 sp E) := by
  intro pins s σ H x y v u Q I rx ry hq
  obtain ⟨a, dx, fs, t, rfl, ha, ty, rt, h⟩ := hq
  cases rx
  obtain ⟨mA, J, _⟩ := ins_get I.hok ha
  obtain ⟨od, J, _⟩ := J.look
  obtain ⟨m, hF⟩ := I.fr
  obtain ⟨P, Z, hP, _⟩ := kit_of I ry ty
  have Lb := Z.ty (model X.prog X.w) s.heap I.kIn hP
  have run : wpAny (model X.prog X.w) X.A (call (.ref f) [.ref a, u]) (PySem.W.CmpBack (EP X pins σ Q)) X.xe s :=
    wpAny_mono (run_fn (us := [.ref a, u]) (vs := [.ref a, y]) F hr hb .nil hx I (.cons rfl (.cons ry .nil)) h) (fun _ _ q => cmpBack q) fun _ _ e => e
  rcases rt with rfl | ⟨right, py, S⟩
  · exact PySem.W.binop_K hF I.ok.mod.kin J Lb O.first O.find O.fn run
  · exact bin_other hF I.ok.mod.kin J O.first O.find O.fn O.refl (.inl rfl) Lb S run

section
open PySem.W
variable {prog : Program} {w : World} {A : Around} {E : Value → Shared → Prop} {s : Shared} {K : Frag} {x C L f : Addr} {h₀ : Heap} {m : Str → Option Value} {ox : Obj} {od : Option Obj}
theorem slotNe : PySem.Slot "object" "__ne__" "object.__ne__" := PySem.F.slot_object_ne
theorem ifBound_ne {b : Value} {Q : Option Value → Shared → Prop} (X : K.In s.heap) (I : InstAt s.heap x ox C od) (hf : findIn K (.ref C) "__ne__" = some (some (.builtin "object.__ne__")))
    (h : wpAny (model prog w) A (call (.builtin "object.__ne__") [.ref x, b]) (fun v => Q (some v)) E s) : wpAny (model prog w) A (callSpecialIfBound? (.ref x) "__ne__" [b]) Q E s := by
  simp only [callSpecialIfBound?, bindSpecialIfBound?]
  refine wpAny_holding (wpAny_bind (wpAny_bind (wpAny_bind (I.type.here ((looks_findIn X hf).here ?_)))))
  refine wpAny_bind (wpAny_askSetting (wpAny_ite ?_))
  have fin : wpAny (model prog w) A (call (.builtin "object.__ne__") ([.ref x] ++ [b]) >>= fun v => pure (some v)) Q E s := wpAny_bind (wpAny_mono h (fun v s' h' => wpAny_pure h') fun _ _ h' => h')
  rw [slotNe.bind]
  split
  · exact wpAny_bind (wpAny_pure (wpAny_pure (by exact fin)))
  · exact wpAny_tryCatch (wpAny_bind (wpAny_pure (wpAny_pure (by exact fin))))
theorem ne_body {b : Value} {Q : Fin → Shared → Prop} (hu : A.units < cLine) (X : K.In s.heap) (I : InstAt s.heap x ox C od) (hs : findIn K (.ref C) "__eq__" = some (some (.ref f))) (hf : isFn K (.ref f) = true)
    (h : wpAny (model prog w) A (call (.ref f) [.ref x, b]) (fun v s' => ∃ r, v = .bool r ∧ Q (.done (.ret (.bool (!r)))) s') E s) : wpAny (model prog w) A (Builtin.«object.__ne__» ⟨[.ref x, b], []⟩) Q E s := by
  unfold Builtin.«object.__ne__»
  refine wpAny_bind (wpAny_pure ?_)
  refine wpAny_bind (wpAny_cRoomFor hu ?_)
  refine wpAny_bind (ifBound_K X I hs hf (wpAny_mono h (fun v s' hv => ?_) fun _ _ e => e))
  obtain ⟨r, rfl, q⟩ := hv
  exact wpAny_bind (wpAny_truthy_bool (wpAny_pure q))

theorem call_ne {b : Value} {Q : Value → Shared → Prop} (hu : A.in1.units < cLine) (X : K.In s.heap) (I : InstAt s.heap x ox C od) (ho : subIn K (.ref C) (.type "object") = some true) (hs : findIn K (.ref C) "__eq__" = some (some (.ref f))) (hf : isFn K (.ref f) = true)
    (h : wpAny (model prog w) A.in1 (call (.ref f) [.ref x, b]) (fun v s' => ∃ r, v = .bool r ∧ Q (.bool (!r)) s') E s) : wpAny (model prog w) A (call (.builtin "object.__ne__") [.ref x, b]) Q E s := by
  refine wpAny_call (codeAny_call_builtin slotNe.plain PySem.F.cmpEntry_ne ?_)
  refine PySem.W.check_slot PySem.F.cmpKind_ne PySem.F.cmpSplit_ne (I.type.andThen (looks_subIn X ho)) (PySem.F.cmpArgs_ne _ _) ?_
  refine ne_body hu X I hs hf (wpAny_mono h (fun v s' hv => ?_) fun _ _ e => e)
  obtain ⟨r, rfl, q⟩ := hv
  exact ⟨r, rfl, q⟩
theorem rc_ne {b tb : Value} {Q : Value → Shared → Prop} (hu : A.units + 1 < cLine) (F : Fr h₀ L s.heap m) (X₀ : K.In h₀) (I : InstAt s.heap x ox C od) (hb : Looks (model prog w) s.heap (typeOf b) tb) (hn : notFirst K C tb = true) (ho : subIn K (.ref C) (.type "object") = some true)
    (hne : findIn K (.ref C) "__ne__" = some (some (.builtin "object.__ne__"))) (hs : findIn K (.ref C) "__eq__" = some (some (.ref f))) (hf : isFn K (.ref f) = true)
    (h : wpAny (model prog w) A.in1 (call (.ref f) [.ref x, b]) (fun v s' => ∃ r, v = .bool r ∧ Q (.bool (!r)) s') E s) : wpAny (model prog w) A (richCompare .NotEq (.ref x) b) Q E s := by
  have X := X₀.keeps F.keep
  have one : wpAny (model prog w) A (tryCompare (.ref x) "__ne__" b) (fun r s' => ∃ v, r = some v ∧ Q v s') E s := by
    unfold tryCompare
    refine wpAny_bind (ifBound_ne X I hne (call_ne hu X I ho hs hf (wpAny_mono h (fun v s' hv => ?_) fun _ _ e => e)))
    obtain ⟨r, rfl, q⟩ := hv
    exact ⟨r, rfl, wpAny_pure ⟨_, rfl, q⟩⟩
  unfold richCompare
  simp only [oneThing_ref]
  refine wpAny_holding (wpAny_bind (wpAny_cRoomFor (Nat.lt_of_succ_lt hu) ?_))
  refine wpAny_bind (I.type.here (wpAny_bind (hb.here ?_)))
  split
  · rename_i q
    have e : subIn K tb (.ref C) = some false := by
      rcases Bool.or_eq_true_iff.mp hn with e | e
      · rw [beq_iff_eq.mp e] at q; simp at q
      · exact beq_iff_eq.mp e
    refine wpAny_bind ((looks_subIn X e).here ?_)
    simp only [Bool.false_eq_true, if_false]
    refine wpAny_bind (wpAny_mono one (fun r s' z => ?_) fun _ _ e => e)
    obtain ⟨v, rfl, hq⟩ := z
    exact wpAny_pure hq
  · refine wpAny_bind (wpAny_pure ?_)
    simp only [Bool.false_eq_true, if_false]
    refine wpAny_bind (wpAny_mono one (fun r s' z => ?_) fun _ _ e => e)
    obtain ⟨v, rfl, hq⟩ := z
    exact wpAny_pure hq
end
/-- a function's promise kept below the running body -/
theorem run_sub {X : Cx} {CX : CXT} {k : Nat} {f : Addr} {fd : FuncData} {ps : List Str} {sp : Sp} {E : XK} {A : Around} (F : FnOk X.prog X.w X.K X.mg X.base CX k f fd ps sp) (sb : Sub X k A) (hb : L2.Binds X.K fd ps []) (hx : Passes CX X E)
    {pins : List (Addr × Obj)} {σ : L2.St} {H : Hp} {s : Shared} {Q : VK} {us : List Value} {vs : List V} (I : L2.Inv X pins σ H s) (r : Vals vs us) (h : sp vs H Q E) : wpAny (model X.prog X.w) A (call (.ref f) us) (EP X pins σ Q) X.xe s := by
  have hl := F.len _ _ _ _ h
  have e0 : Env0 X.prog X.w X.K X.mg X.base A X.stack s H := by
    have e := I.env0
    exact ⟨by rw [sb.fr]; exact e.frames, e.mod, e.bs, e.bsz, e.funs, e.frf, e.hok, e.bare⟩
  have hl2 : us.length = ps.length := by rw [← r.length]; exact hl
  refine wpAny_call (codeAny_mono (F.run A X.stack s H ⟨us, []⟩ us vs Q E sb.room e0 (by
    have := hb s us I.kIn (by simpa using hl2)
    simpa using this) r h) fun r s' hq => ?_)
  cases r with
  | error e => exact hx pins σ H s e s' I hq
  | ok fl =>
    cases fl with
    | ret u => exact I.after hq
    | next => exact False.elim hq
    | brk => exact False.elim hq
    | cont => exact False.elim hq
/-- what is known of a class with an own == and no own != -/
structure OwnEq (K : PySem.W.Frag) (C f : Addr) : Prop where
  eq : PySem.W.findIn K (.ref C) "__eq__" = some (some (.ref f))
  fn : PySem.W.isFn K (.ref f) = true
  ne : PySem.W.findIn K (.ref C) "__ne__" = some (some (.builtin "object.__ne__"))
  obj : PySem.W.subIn K (.ref C) (.type "object") = some true
/-- x == y of an instance x of C and any y whose class doesn't descend from C -/
def rOwnEq (K : PySem.W.Frag) (C : Addr) (sp : Sp) (E : XK) : R2 := fun x y H Q => ∃ a dx fs t, x = .ref a ∧ H a = some (.ins C dx fs) ∧ TyX K H y t ∧ PySem.W.notFirst K C t = true ∧ sp [.ref a, y] H Q E
def rOwnNe (K : PySem.W.Frag) (C : Addr) (sp : Sp) (E : XK) : R2 := fun x y H Q => ∃ a dx fs t, x = .ref a ∧ H a = some (.ins C dx fs) ∧ TyX K H y t ∧ PySem.W.notFirst K C t = true ∧ sp [.ref a, y] H (fun v H' => ∃ b, v = .bl b ∧ Q (.bl (!b)) H') E
section
variable {X : Cx} {CX : CXT} {k : Nat} {f C : Addr} {fd : FuncData} {ps : List Str} {sp : Sp} {E : XK}
theorem op_ownEq (O : OwnEq X.K C f) (F : FnOk X.prog X.w X.K X.mg X.base CX k f fd ps sp) (hr : Room k X.A) (hb : L2.Binds X.K fd ps []) (hx : Passes CX X E) : OpR X (compareOp .Eq) (rOwnEq X.K C sp E) := by
  intro pins s σ H x y v u Q I rx ry hq
  obtain ⟨a, dx, fs, t, rfl, ha, ty, nf, h⟩ := hq
  cases rx
  obtain ⟨mA, J, _⟩ := ins_get I.hok ha
  obtain ⟨od, J, _⟩ := J.look
  obtain ⟨m, hF⟩ := I.fr
  obtain ⟨P, Z, hP, _⟩ := kit_of I ry ty
  have run : wpAny (model X.prog X.w) X.A (call (.ref f) [.ref a, u]) (PySem.W.CmpBack (EP X pins σ Q)) X.xe s :=
    wpAny_mono (run_fn (us := [.ref a, u]) (vs := [.ref a, y]) F hr hb .nil hx I (.cons rfl (.cons ry .nil)) h) (fun _ _ q => cmpBack q) fun _ _ e => e
  show wpAny (model X.prog X.w) X.A (richCompare .Eq (.ref a) u) (EP X pins σ Q) X.xe s
  exact PySem.W.cmp_K (op := .Eq) hr.units0 hF I.ok.mod.kin J (Z.ty _ s.heap I.kIn hP) nf O.eq O.fn run
theorem op_ownNe (O : OwnEq X.K C f) (F : FnOk X.prog X.w X.K X.mg X.base CX k f fd ps sp) (hr : Room (k + 1) X.A) (hb : L2.Binds X.K fd ps []) (hx : Passes CX X E) : OpR X (compareOp .NotEq) (rOwnNe X.K C sp E) := by
  intro pins s σ H x y v u Q I rx ry hq
  obtain ⟨a, dx, fs, t, rfl, ha, ty, nf, h⟩ := hq
  cases rx
  obtain ⟨mA, J, _⟩ := ins_get I.hok ha
  obtain ⟨od, J, _⟩ := J.look
  obtain ⟨m, hF⟩ := I.fr
  obtain ⟨P, Z, hP, _⟩ := kit_of I ry ty
  have sb : Sub X k X.A.in1 := ⟨hr.in1, rfl⟩
  have run : wpAny (model X.prog X.w) X.A.in1 (call (.ref f) [.ref a, u]) (fun v s' => ∃ r, v = .bool r ∧ EP X pins σ Q (.bool (!r)) s') X.xe s :=
    wpAny_mono (run_sub (us := [.ref a, u]) (vs := [.ref a, y]) F sb hb hx I (.cons rfl (.cons ry .nil)) h) (fun v s' q => by
      obtain ⟨z, H', I', r, b, rfl, q⟩ := q
      cases r
      exact ⟨b, rfl, .bl (!b), H', I', rfl, q⟩) fun _ _ e => e
  show wpAny (model X.prog X.w) X.A (richCompare .NotEq (.ref a) u) (EP X pins σ Q) X.xe s
  exact rc_ne hr.in1.units0 hF I.ok.mod.kin J (Z.ty _ s.heap I.kIn hP) nf O.obj O.ne O.eq O.fn run
end

theorem dunder_mul : PySem.dunder "mul" = ("__mul__" : Str) := by decide +kernel
/-- what a head says of an own class with *, == and no reflected *, no != -/
def opsB (K : PySem.W.Frag) (owns : List Addr) (C : Addr) : Bool :=
  PySem.W.selfFirst K C && (decide (PySem.W.findIn K (.ref C) (dunderR "mul") = some none) && (decide (PySem.W.findIn K (.ref C) "__ne__" = some (some (.builtin "object.__ne__"))) && (decide (PySem.W.subIn K (.ref C) (.type "object") = some true) &&
  ((["NoneType", "int", "bool", "str", "list", "tuple"].all fun b => decide (PySem.W.subIn K (.type b) (.ref C) = some false)) && (owns.all fun D => decide (PySem.W.subIn K (.ref D) (.ref C) = some (decide (D = C))))))))
structure Ops (K : PySem.W.Frag) (owns : List Addr) (C : Addr) : Prop where
  first : PySem.W.selfFirst K C = true
  rmul : PySem.W.findIn K (.ref C) (dunderR "mul") = some none
  ne : PySem.W.findIn K (.ref C) "__ne__" = some (some (.builtin "object.__ne__"))
  obj : PySem.W.subIn K (.ref C) (.type "object") = some true
  tys : ∀ b ∈ ["NoneType", "int", "bool", "str", "list", "tuple"], PySem.W.subIn K (.type b) (.ref C) = some false
  own : ∀ D ∈ owns, PySem.W.subIn K (.ref D) (.ref C) = some (decide (D = C))
theorem ops_ok {K : PySem.W.Frag} {owns : List Addr} {C : Addr} (h : opsB K owns C = true) : Ops K owns C := by
  unfold opsB at h
  simp only [Bool.and_eq_true, decide_eq_true_eq, List.all_eq_true] at h
  obtain ⟨a, b, c, d, e, f⟩ := h
  exact ⟨a, b, c, d, e, f⟩
section
variable {K : PySem.W.Frag} {owns : List Addr} {C D f g : Addr}
theorem Ops.mul (o : Ops K owns C) (m : Meth K C "__mul__" f) : OwnOp K C "mul" f := ⟨o.first, by rw [dunder_mul]; exact m.at_, m.fn, o.rmul⟩
theorem Ops.eq (o : Ops K owns C) (m : Meth K C "__eq__" f) : OwnEq K C f := ⟨m.at_, m.fn, o.ne, o.obj⟩
theorem right_same : RightOf K C "mul" (.ref C) := .inl rfl
theorem Ops.right (o : Ops K owns C) (o2 : Ops K owns D) (m2 : Meth K D "__mul__" g) (hD : D ∈ owns) (ne : D ≠ C) : RightOf K C "mul" (.ref D) :=
  .inr ⟨true, true, ⟨Bool.eq_false_iff.mpr fun q => ne (by have := beq_iff_eq.mp q; injection this with this; exact this.symm), fun M h X => by
    obtain ⟨cd, rest, hcd, hm⟩ := PySem.W.ksp_first o2.first
    exact PySem.W.fills_K X hcd hm (o2.mul m2).find, by rw [o.own D hD, decide_eq_false ne], fun _ M h X => PySem.W.ksp_inPy X (o2.mul m2).find o2.rmul (.inl rfl), fun _ z => nomatch z⟩⟩
theorem Ops.rightT (o : Ops K owns C) {T : String} {fo ro : Option Value} (hT : T ∈ ["NoneType", "int", "bool", "str", "list", "tuple"]) (h1 : fastLookup T (PySem.dunder "mul") = some fo) (h2 : fastLookup T (dunderR "mul") = some ro) : RightOf K C "mul" (.type T) :=
  .inr ⟨_, false, ⟨Bool.eq_false_iff.mpr fun q => (nomatch beq_iff_eq.mp q), fun M h X => PySem.W.ksp_fillsT X h1 h2, o.tys T hT, fun _ M h X => PySem.W.Looks.of_pure rfl, fun _ _ => ⟨ro, h2⟩⟩⟩
theorem Ops.right_int (o : Ops K owns C) : RightOf K C "mul" (.type "int") := o.rightT (fo := some (.builtin "int.__mul__")) (ro := some (.builtin "int.__rmul__")) (by decide) (by kernel_rfl) (by kernel_rfl)
theorem Ops.right_none (o : Ops K owns C) : RightOf K C "mul" (.type "NoneType") := o.rightT (fo := none) (ro := none) (by decide) (by kernel_rfl) (by kernel_rfl)
theorem Ops.right_tuple (o : Ops K owns C) : RightOf K C "mul" (.type "tuple") := o.rightT (fo := some (.builtin "tuple.__mul__")) (ro := some (.builtin "tuple.__rmul__")) (by decide) (by kernel_rfl) (by kernel_rfl)
theorem Ops.right_list (o : Ops K owns C) : RightOf K C "mul" (.type "list") := o.rightT (fo := some (.builtin "list.__mul__")) (ro := some (.builtin "list.__rmul__")) (by decide) (by kernel_rfl) (by kernel_rfl)
theorem Ops.right_str (o : Ops K owns C) : RightOf K C "mul" (.type "str") := o.rightT (fo := some (.builtin "str.__mul__")) (ro := some (.builtin "str.__rmul__")) (by decide) (by kernel_rfl) (by kernel_rfl)
theorem Ops.notFirst (o : Ops K owns C) (hD : D ∈ owns) : PySem.W.notFirst K C (.ref D) = true := by
  unfold PySem.W.notFirst
  by_cases e : D = C
  · subst e
    simp
  · rw [o.own D hD, decide_eq_false e]
    simp
theorem Ops.notFirstT (o : Ops K owns C) {T : String} (hT : T ∈ ["NoneType", "int", "bool", "str", "list", "tuple"]) : PySem.W.notFirst K C (.type T) = true := by
  unfold PySem.W.notFirst
  rw [o.tys T hT]
  simp
end
end Lf

set_option Elab.async false
set_option linter.all false
set_option maxRecDepth 100000
set_option maxHeartbeats 0
namespace K67
open PySem PySem.Spec PyProof.Rows L2
def top (i : Nat) : Stmt := PySem.Challenge.pw_letterfolds_k67_words_that_things_have.main.body.getD i (.Pass ⟨0, 0, 0, 0⟩)
abbrev s_is_number : Stmt := top 4
def d_is_number : He.DefD := ⟨("is_number", none), "is_number", "is_number", defArgs s_is_number, defBody s_is_number, defScope s_is_number, [], []⟩
abbrev s_is_between : Stmt := top 5
def d_is_between : He.DefD := ⟨("is_between", none), "is_between", "is_between", defArgs s_is_between, defBody s_is_between, defScope s_is_between, [], []⟩
abbrev s_is_sequence : Stmt := top 6
def d_is_sequence : He.DefD := ⟨("is_sequence", none), "is_sequence", "is_sequence", defArgs s_is_sequence, defBody s_is_sequence, defScope s_is_sequence, [], []⟩
abbrev s_wrong_place : Stmt := top 7
def d_wrong_place : He.DefD := ⟨("wrong_place", none), "wrong_place", "wrong_place", defArgs s_wrong_place, defBody s_wrong_place, defScope s_wrong_place, [], []⟩
abbrev s_is_word : Stmt := top 8
def d_is_word : He.DefD := ⟨("is_word", none), "is_word", "is_word", defArgs s_is_word, defBody s_is_word, defScope s_is_word, [.non], []⟩
abbrev s_FoldError_told : Stmt := inClass (top 10) 0
def d_FoldError_told : He.DefD := ⟨("FoldError", some "told"), "told", "FoldError.told", defArgs s_FoldError_told, defBody s_FoldError_told, defScope s_FoldError_told, [], []⟩
abbrev s_NoNumber_init : Stmt := inClass (top 11) 0
def d_NoNumber_init : He.DefD := ⟨("NoNumber", some "__init__"), "__init__", "NoNumber.__init__", defArgs s_NoNumber_init, defBody s_NoNumber_init, defScope s_NoNumber_init, [], []⟩
abbrev s_NoNumber_told : Stmt := inClass (top 11) 1
def d_NoNumber_told : He.DefD := ⟨("NoNumber", some "told"), "told", "NoNumber.told", defArgs s_NoNumber_told, defBody s_NoNumber_told, defScope s_NoNumber_told, [], []⟩
abbrev s_NoMonoid_init : Stmt := inClass (top 12) 0
def d_NoMonoid_init : He.DefD := ⟨("NoMonoid", some "__init__"), "__init__", "NoMonoid.__init__", defArgs s_NoMonoid_init, defBody s_NoMonoid_init, defScope s_NoMonoid_init, [], []⟩
abbrev s_NoMonoid_told : Stmt := inClass (top 12) 1
def d_NoMonoid_told : He.DefD := ⟨("NoMonoid", some "told"), "told", "NoMonoid.told", defArgs s_NoMonoid_told, defBody s_NoMonoid_told, defScope s_NoMonoid_told, [], []⟩
abbrev s_NoWord_init : Stmt := inClass (top 13) 0
def d_NoWord_init : He.DefD := ⟨("NoWord", some "__init__"), "__init__", "NoWord.__init__", defArgs s_NoWord_init, defBody s_NoWord_init, defScope s_NoWord_init, [], []⟩
abbrev s_NoWord_told : Stmt := inClass (top 13) 1
def d_NoWord_told : He.DefD := ⟨("NoWord", some "told"), "told", "NoWord.told", defArgs s_NoWord_told, defBody s_NoWord_told, defScope s_NoWord_told, [], []⟩
abbrev s_TooMany_init : Stmt := inClass (top 14) 0
def d_TooMany_init : He.DefD := ⟨("TooMany", some "__init__"), "__init__", "TooMany.__init__", defArgs s_TooMany_init, defBody s_TooMany_init, defScope s_TooMany_init, [], []⟩
abbrev s_TooMany_told : Stmt := inClass (top 14) 1
def d_TooMany_told : He.DefD := ⟨("TooMany", some "told"), "told", "TooMany.told", defArgs s_TooMany_told, defBody s_TooMany_told, defScope s_TooMany_told, [], []⟩
abbrev s_NoAutomaton_init : Stmt := inClass (top 15) 0
def d_NoAutomaton_init : He.DefD := ⟨("NoAutomaton", some "__init__"), "__init__", "NoAutomaton.__init__", defArgs s_NoAutomaton_init, defBody s_NoAutomaton_init, defScope s_NoAutomaton_init, [], []⟩
abbrev s_NoAutomaton_told : Stmt := inClass (top 15) 1
def d_NoAutomaton_told : He.DefD := ⟨("NoAutomaton", some "told"), "told", "NoAutomaton.told", defArgs s_NoAutomaton_told, defBody s_NoAutomaton_told, defScope s_NoAutomaton_told, [], []⟩
abbrev s_NoLanguage_told : Stmt := inClass (top 16) 0
def d_NoLanguage_told : He.DefD := ⟨("NoLanguage", some "told"), "told", "NoLanguage.told", defArgs s_NoLanguage_told, defBody s_NoLanguage_told, defScope s_NoLanguage_told, [], []⟩
abbrev s_Monoid_init : Stmt := inClass (top 19) 0
def d_Monoid_init : He.DefD := ⟨("Monoid", some "__init__"), "__init__", "Monoid.__init__", defArgs s_Monoid_init, defBody s_Monoid_init, defScope s_Monoid_init, [], []⟩
abbrev s_Monoid_eq : Stmt := inClass (top 19) 1
def d_Monoid_eq : He.DefD := ⟨("Monoid", some "__eq__"), "__eq__", "Monoid.__eq__", defArgs s_Monoid_eq, defBody s_Monoid_eq, defScope s_Monoid_eq, [], []⟩
abbrev s_Monoid_size : Stmt := inClass (top 19) 2
def d_Monoid_size : He.DefD := ⟨("Monoid", some "size"), "size", "Monoid.size", defArgs s_Monoid_size, defBody s_Monoid_size, defScope s_Monoid_size, [], []⟩
abbrev s_Monoid_words : Stmt := inClass (top 19) 3
def d_Monoid_words : He.DefD := ⟨("Monoid", some "words"), "words", "Monoid.words", defArgs s_Monoid_words, defBody s_Monoid_words, defScope s_Monoid_words, [], []⟩
abbrev s_Monoid_left : Stmt := inClass (top 19) 4
def d_Monoid_left : He.DefD := ⟨("Monoid", some "left"), "left", "Monoid.left", defArgs s_Monoid_left, defBody s_Monoid_left, defScope s_Monoid_left, [], []⟩
abbrev s_Monoid_times : Stmt := inClass (top 19) 6
def d_Monoid_times : He.DefD := ⟨("Monoid", some "times"), "times", "Monoid.times", defArgs s_Monoid_times, defBody s_Monoid_times, defScope s_Monoid_times, [], []⟩
abbrev s_Monoid_check_number : Stmt := inClass (top 19) 17
def d_Monoid_check_number : He.DefD := ⟨("Monoid", some "_check_number"), "_check_number", "Monoid._check_number", defArgs s_Monoid_check_number, defBody s_Monoid_check_number, defScope s_Monoid_check_number, [], []⟩
abbrev s_check_monoid : Stmt := top 20
def d_check_monoid : He.DefD := ⟨("check_monoid", none), "check_monoid", "check_monoid", defArgs s_check_monoid, defBody s_check_monoid, defScope s_check_monoid, [], []⟩
abbrev s_check_form : Stmt := top 21
def d_check_form : He.DefD := ⟨("_check_form", none), "_check_form", "_check_form", defArgs s_check_form, defBody s_check_form, defScope s_check_form, [], []⟩
abbrev s_made_by : Stmt := top 22
def d_made_by : He.DefD := ⟨("_made_by", none), "_made_by", "_made_by", defArgs s_made_by, defBody s_made_by, defScope s_made_by, [], []⟩
abbrev s_left_table : Stmt := top 23
def d_left_table : He.DefD := ⟨("_left_table", none), "_left_table", "_left_table", defArgs s_left_table, defBody s_left_table, defScope s_left_table, [], []⟩
abbrev s_check_products : Stmt := top 24
def d_check_products : He.DefD := ⟨("_check_products", none), "_check_products", "_check_products", defArgs s_check_products, defBody s_check_products, defScope s_check_products, [], []⟩
abbrev s_letters_of : Stmt := top 25
def d_letters_of : He.DefD := ⟨("_letters_of", none), "_letters_of", "_letters_of", defArgs s_letters_of, defBody s_letters_of, defScope s_letters_of, [], []⟩
abbrev s_end : Stmt := top 26
def d_end : He.DefD := ⟨("_end", none), "_end", "_end", defArgs s_end, defBody s_end, defScope s_end, [], []⟩
abbrev s_Automaton_init : Stmt := inClass (top 32) 0
def d_Automaton_init : He.DefD := ⟨("Automaton", some "__init__"), "__init__", "Automaton.__init__", defArgs s_Automaton_init, defBody s_Automaton_init, defScope s_Automaton_init, [], []⟩
abbrev s_Automaton_eq : Stmt := inClass (top 32) 1
def d_Automaton_eq : He.DefD := ⟨("Automaton", some "__eq__"), "__eq__", "Automaton.__eq__", defArgs s_Automaton_eq, defBody s_Automaton_eq, defScope s_Automaton_eq, [], []⟩
abbrev s_Language_init : Stmt := inClass (top 33) 0
def d_Language_init : He.DefD := ⟨("Language", some "__init__"), "__init__", "Language.__init__", defArgs s_Language_init, defBody s_Language_init, defScope s_Language_init, [], []⟩
abbrev s_Language_eq : Stmt := inClass (top 33) 1
def d_Language_eq : He.DefD := ⟨("Language", some "__eq__"), "__eq__", "Language.__eq__", defArgs s_Language_eq, defBody s_Language_eq, defScope s_Language_eq, [], []⟩
abbrev s_accepts : Stmt := top 34
def d_accepts : He.DefD := ⟨("accepts", none), "accepts", "accepts", defArgs s_accepts, defBody s_accepts, defScope s_accepts, [], []⟩
abbrev s_check_thing : Stmt := top 35
def d_check_thing : He.DefD := ⟨("check_thing", none), "check_thing", "check_thing", defArgs s_check_thing, defBody s_check_thing, defScope s_check_thing, [], []⟩
abbrev s_are_rows : Stmt := top 36
def d_are_rows : He.DefD := ⟨("_are_rows", none), "_are_rows", "_are_rows", defArgs s_are_rows, defBody s_are_rows, defScope s_are_rows, [], []⟩
abbrev s_states_of : Stmt := top 37
def d_states_of : He.DefD := ⟨("_states_of", none), "_states_of", "_states_of", defArgs s_states_of, defBody s_states_of, defScope s_states_of, [], []⟩
abbrev s_L_source : Stmt := top 39
def d_L_source : He.DefD := ⟨("_law_source", none), "_law_source", "_law_source", defArgs s_L_source, defBody s_L_source, defScope s_L_source, [], []⟩
abbrev s_L_draw : Stmt := top 40
def d_L_draw : He.DefD := ⟨("_law_draw", none), "_law_draw", "_law_draw", defArgs s_L_draw, defBody s_L_draw, defScope s_L_draw, [], []⟩
abbrev s_L_pick : Stmt := top 41
def d_L_pick : He.DefD := ⟨("_law_pick", none), "_law_pick", "_law_pick", defArgs s_L_pick, defBody s_L_pick, defScope s_L_pick, [], []⟩
abbrev s_L_moves : Stmt := top 42
def d_L_moves : He.DefD := ⟨("_law_moves", none), "_law_moves", "_law_moves", defArgs s_L_moves, defBody s_L_moves, defScope s_L_moves, [], []⟩
abbrev s_L_plan : Stmt := top 43
def d_L_plan : He.DefD := ⟨("_law_plan", none), "_law_plan", "_law_plan", defArgs s_L_plan, defBody s_L_plan, defScope s_L_plan, [], []⟩
abbrev s_L_all_words : Stmt := top 44
def d_L_all_words : He.DefD := ⟨("_law_all_words", none), "_law_all_words", "_law_all_words", defArgs s_L_all_words, defBody s_L_all_words, defScope s_L_all_words, [], []⟩
abbrev s_L_led : Stmt := top 45
def d_L_led : He.DefD := ⟨("_law_led", none), "_law_led", "_law_led", defArgs s_L_led, defBody s_L_led, defScope s_L_led, [], []⟩
abbrev s_L_has : Stmt := top 46
def d_L_has : He.DefD := ⟨("_law_has", none), "_law_has", "_law_has", defArgs s_L_has, defBody s_L_has, defScope s_L_has, [], []⟩
abbrev s_L_acts : Stmt := top 47
def d_L_acts : He.DefD := ⟨("_law_acts", none), "_law_acts", "_law_acts", defArgs s_L_acts, defBody s_L_acts, defScope s_L_acts, [], []⟩
abbrev s_L_refused : Stmt := top 48
def d_L_refused : He.DefD := ⟨("_law_refused", none), "_law_refused", "_law_refused", defArgs s_L_refused, defBody s_L_refused, defScope s_L_refused, [], []⟩
abbrev s_L_right : Stmt := top 49
def d_L_right : He.DefD := ⟨("_law_right", none), "_law_right", "_law_right", defArgs s_L_right, defBody s_L_right, defScope s_L_right, [], []⟩
abbrev s_law : Stmt := top 50
def d_law : He.DefD := ⟨("law", none), "law", "law", defArgs s_law, defBody s_law, defScope s_law, [], []⟩
def fn : List He.DefD := [d_is_number, d_is_between, d_is_sequence, d_wrong_place, d_is_word, d_FoldError_told, d_NoNumber_init, d_NoNumber_told, d_NoMonoid_init, d_NoMonoid_told, d_NoWord_init, d_NoWord_told, d_TooMany_init, d_TooMany_told, d_NoAutomaton_init, d_NoAutomaton_told, d_NoLanguage_told, d_Monoid_init, d_Monoid_eq, d_Monoid_size, d_Monoid_words, d_Monoid_left, d_Monoid_times, d_Monoid_check_number, d_check_monoid, d_check_form, d_made_by, d_left_table, d_check_products, d_letters_of, d_end, d_Automaton_init, d_Automaton_eq, d_Language_init, d_Language_eq, d_accepts, d_check_thing, d_are_rows, d_states_of, d_L_source, d_L_draw, d_L_pick, d_L_moves, d_L_plan, d_L_all_words, d_L_led, d_L_has, d_L_acts, d_L_refused, d_L_right, d_law]
def fa : List He.Fa := [.glo "FoldError", .glo "NoNumber", .glo "NoMonoid", .glo "NoWord", .glo "TooMany", .glo "NoAutomaton", .glo "NoLanguage", .glo "Monoid", .glo "Automaton", .glo "Language", .glo "is_number", .glo "is_between", .glo "is_sequence", .glo "wrong_place", .glo "is_word", .glo "check_monoid", .glo "_check_form", .glo "_made_by", .glo "_left_table", .glo "_check_products", .glo "_letters_of", .glo "_end", .glo "accepts", .glo "check_thing", .glo "_are_rows", .glo "_states_of", .glo "_law_source", .glo "_law_draw", .glo "_law_pick", .glo "_law_moves", .glo "_law_plan", .glo "_law_all_words", .glo "_law_led", .glo "_law_has", .glo "_law_acts", .glo "_law_refused", .glo "_law_right", .glo "law", .int "MOST_SIZE" 2000, .int "MOST_LETTERS" 4, .int "MOST_STATES" 40, .int "MOST_FOUND" 500, .int "MOST_WORD" 300, .str "LETTERS" "abcdef", .str "SIGNS" "abcdefghijklmnopqrst", .free "ValueError", .free "abs", .free "all", .free "bool", .free "enumerate", .free "int", .free "isinstance", .free "len", .free "list", .free "max", .free "range", .free "repr", .free "set", .free "sorted", .free "str", .free "tuple", .cls "Monoid", .mkr "Monoid", .meth "Monoid" "__eq__", .meth "Monoid" "size", .meth "Monoid" "words", .meth "Monoid" "left", .meth "Monoid" "times", .meth "Monoid" "_check_number", .noat "Monoid" "right", .noat "Monoid" "_made", .noat "Monoid" "_left", .cls "Automaton", .mkr "Automaton", .meth "Automaton" "__eq__", .noat "Automaton" "rows", .noat "Automaton" "start", .noat "Automaton" "accepted", .cls "Language", .mkr "Language", .meth "Language" "__eq__", .noat "Language" "monoid", .noat "Language" "accepted", .meth "NoNumber" "told", .meth "NoMonoid" "told", .meth "NoWord" "told", .meth "TooMany" "told", .meth "NoAutomaton" "told", .meth "NoLanguage" "told", .exc "NoLanguage", .exm "NoNumber" "FoldError" true, .exm "NoNumber" "NoNumber" true, .exm "NoNumber" "NoMonoid" false, .exm "NoNumber" "NoWord" false, .exm "NoNumber" "TooMany" false, .exm "NoNumber" "NoAutomaton" false, .exm "NoNumber" "NoLanguage" false, .exm "NoMonoid" "FoldError" true, .exm "NoMonoid" "NoNumber" false, .exm "NoMonoid" "NoMonoid" true, .exm "NoMonoid" "NoWord" false, .exm "NoMonoid" "TooMany" false, .exm "NoMonoid" "NoAutomaton" false, .exm "NoMonoid" "NoLanguage" false, .exm "NoWord" "FoldError" true, .exm "NoWord" "NoNumber" false, .exm "NoWord" "NoMonoid" false, .exm "NoWord" "NoWord" true, .exm "NoWord" "TooMany" false, .exm "NoWord" "NoAutomaton" false, .exm "NoWord" "NoLanguage" false, .exm "TooMany" "FoldError" true, .exm "TooMany" "NoNumber" false, .exm "TooMany" "NoMonoid" false, .exm "TooMany" "NoWord" false, .exm "TooMany" "TooMany" true, .exm "TooMany" "NoAutomaton" false, .exm "TooMany" "NoLanguage" false, .exm "NoAutomaton" "FoldError" true, .exm "NoAutomaton" "NoNumber" false, .exm "NoAutomaton" "NoMonoid" false, .exm "NoAutomaton" "NoWord" false, .exm "NoAutomaton" "TooMany" false, .exm "NoAutomaton" "NoAutomaton" true, .exm "NoAutomaton" "NoLanguage" false, .exm "NoLanguage" "FoldError" true, .exm "NoLanguage" "NoNumber" false, .exm "NoLanguage" "NoMonoid" false, .exm "NoLanguage" "NoWord" false, .exm "NoLanguage" "TooMany" false, .exm "NoLanguage" "NoAutomaton" false, .exm "NoLanguage" "NoLanguage" true]
def inis : List (Str × List Str) := [("NoNumber", ["number"]), ("NoMonoid", ["what", "place"]), ("NoWord", ["word"]), ("TooMany", ["most"]), ("NoAutomaton", ["what"])]
def bares : List Str := ["NoLanguage"]
def owns : List Str := ["Monoid", "Automaton", "Language"]
def opsl : List Str := ["Automaton"]
def iniB (K : PySem.W.Frag) (p : Str × List Str) : Bool := Lf.errB K (He.ga K p.1) && (decide (PySem.W.findIn K (.ref (He.ga K p.1)) "__init__" = some (some (.ref (He.ma K (He.ga K p.1) "__init__")))) &&
  (decide (PySem.W.typeIn K (.ref (He.ma K (He.ga K p.1) "__init__")) = some (.type "function")) && (p.2.all fun f => decide (PySem.W.findIn K (.ref (He.ga K p.1)) f = some none))))
def isB (K : PySem.W.Frag) (x : Str) : Bool := decide (PySem.W.kitOne K (.ref (He.ga K x)) (.ref (He.ga K "FoldError")) = some true)
/-- an own class among all: what isinstance says of its instances, and of others -/
def ownB (K : PySem.W.Frag) (x : Str) : Bool := decide (PySem.W.findIn K (.ref (He.ga K x)) "__class__" = some (some (.builtin "object.__class__"))) && (decide (PySem.W.specialIn K (.builtin "object.__class__") "__get__" = some (some (.builtin "getset_descriptor.__get__"))) &&
  (decide (PySem.W.takesIn K (.builtin "object.__class__") = some true) && (decide (PySem.W.mroIn K (He.ga K x) (.type "object") = some true) &&
  ((["int", "bool", "str", "list", "tuple"].all fun b => decide (PySem.W.kitOne K (.ref (He.ga K x)) (.type b) = some false)) && ((["NoneType", "int", "bool", "str", "list", "tuple", "dict"].all fun b => decide (PySem.W.kitOne K (.type b) (.ref (He.ga K x)) = some false)) &&
  owns.all fun y => decide (PySem.W.kitOne K (.ref (He.ga K x)) (.ref (He.ga K y)) = some (decide (x = y))))))))
def ex (K : PySem.W.Frag) : Bool := (inis.all fun p => iniB K p && isB K p.1) && ((bares.all fun x => Lf.errB K (He.ga K x) && isB K x) && ((owns.all fun x => ownB K x) && opsl.all fun x => Lf.opsB K (owns.map fun y => He.ga K y) (He.ga K x)))
def loose : List Str := (["_wall", "is_number", "is_between", "is_sequence", "wrong_place", "is_word", "FoldError", "NoNumber", "NoMonoid", "NoWord", "TooMany", "NoAutomaton", "NoLanguage", "Monoid", "check_monoid", "_check_form", "_made_by", "_left_table", "_check_products", "_letters_of", "_end", "Automaton", "Language", "accepts", "check_thing", "_are_rows", "_states_of", "_law_source", "_law_draw", "_law_pick"] : List Str) ++ (["_law_moves", "_law_plan", "_law_all_words", "_law_led", "_law_has", "_law_acts", "_law_refused", "_law_right", "LETTERS", "SIGNS", "MOST_SIZE", "MOST_LETTERS", "MOST_STATES", "MOST_FOUND", "MOST_WORD"] : List Str)
def tf : List He.Defn := []
end K67

set_option Elab.async false
set_option linter.all false
set_option maxRecDepth 100000
set_option maxHeartbeats 8000000
namespace K67
open PySem PySem.Spec PyProof.Rows L2 Lf
/-- a list or a tuple of xs at a -/
def Sq (K : PySem.W.Frag) (H : Hp) (a : Addr) (xs : List V) : Prop := SqL K H a xs ∨ SqT K H a xs
theorem Sq.same {K : PySem.W.Frag} {H H' : Hp} {a : Addr} {xs : List V} (h : Sq K H a xs) (e : Same H H') : Sq K H' a xs := h.imp (L2.Same.seq e) (Lf.SqT.same e)
theorem tyx_l {K : PySem.W.Frag} {H : Hp} {a : Addr} {xs : List V} (h : SqL K H a xs) : TyX K H (.ref a) (.type "list") := by
  rcases h with (h | ⟨o, h⟩) | ⟨o, its, n, hk, hc, _⟩
  · exact .base (.lst h)
  · exact .base (.frz h)
  · exact .kList hk hc
theorem tyx_t {K : PySem.W.Frag} {H : Hp} {a : Addr} {xs : List V} (h : SqT K H a xs) : TyX K H (.ref a) (.type "tuple") := by
  rcases h with (h | ⟨o, h⟩) | ⟨o, its, n, hk, hc, _⟩
  · exact .base (.tup h)
  · exact .fTuple h
  · exact .kTuple hk hc
theorem any_lt {K : PySem.W.Frag} : PySem.W.kitAny K (.type "list") [.type "list", .type "tuple"] = some true ∧ PySem.W.kitAny K (.type "tuple") [.type "list", .type "tuple"] = some true :=
  ⟨kitAny_cons (kit_ty (b := "list") (r := true) (by decide +kernel)) (fun h => nomatch h) (fun _ => rfl),
   kitAny_cons (kit_ty (b := "list") (r := false) (by decide +kernel)) (fun _ => kitAny_cons (kit_ty (b := "tuple") (r := true) (by decide +kernel)) (fun h => nomatch h) (fun _ => rfl)) (fun h => nomatch h)⟩
/-- whether it is an int; of what a row may hold -/
def Flat : V → Prop
  | .non => True
  | .bl _ => True
  | .int _ => True
  | .str _ => True
  | _ => False
def isNum : V → Bool
  | .int _ => true
  | _ => false
def ofInt : V → Bool
  | .int _ => true
  | .bl _ => true
  | _ => false
def ofBool : V → Bool
  | .bl _ => true
  | _ => false
theorem flat_ty {K : PySem.W.Frag} {H : Hp} {x : V} (h : Flat x) : ∃ n, TyX K H x (.type n) ∧ PySem.W.kitOne K (.type n) (.type "int") = some (ofInt x) ∧ PySem.W.kitOne K (.type n) (.type "bool") = some (ofBool x) := by
  cases x with
  | non => exact ⟨_, .base .non, kit_ty (show kitB "NoneType" "int" = some false by decide +kernel), kit_ty (show kitB "NoneType" "bool" = some false by decide +kernel)⟩
  | bl b => exact ⟨_, .base (.bl b), kit_ty (show kitB "bool" "int" = some true by decide +kernel), kit_ty (show kitB "bool" "bool" = some true by decide +kernel)⟩
  | int i => exact ⟨_, .base (.int i), kit_ty (show kitB "int" "int" = some true by decide +kernel), kit_ty (show kitB "int" "bool" = some false by decide +kernel)⟩
  | str s => exact ⟨_, .base (.str s), kit_ty (show kitB "str" "int" = some false by decide +kernel), kit_ty (show kitB "str" "bool" = some false by decide +kernel)⟩
  | byt _ => exact h.elim
  | flt _ => exact h.elim
  | ref _ => exact h.elim
  | ty _ => exact h.elim
def spNum : Sp := fun vs H Q _ => ∃ x, vs = [x] ∧ Flat x ∧ Q (.bl (isNum x)) H
/-- thing between least and most -/
def btw (lo hi : Int) : V → Bool
  | .int i => decide (lo ≤ i) && decide (i ≤ hi)
  | _ => false
def spBtw : Sp := fun vs H Q _ => ∃ x lo hi, vs = [x, .int lo, .int hi] ∧ Flat x ∧ Q (.bl (btw lo hi x)) H
def spSeq (K : PySem.W.Frag) : Sp := fun vs H Q _ => ∃ a xs lo hi, vs = [.ref a, .int lo, .int hi] ∧ Sq K H a xs ∧ ∀ H', Same H H' → Q (.bl (decide (lo ≤ (xs.length : Int)) && decide ((xs.length : Int) ≤ hi))) H'
section
variable {P : Program} {w : World} {K : PySem.W.Frag} {mg : Str → Option Value} {base : Heap}
theorem scNum : FnScope ["thing"] ["thing"] (defScope s_is_number) := ⟨rfl, rfl, rfl, by decide +kernel, rfl, by decide +kernel, by decide +kernel⟩
theorem ok_num {f : Addr} {fd : FuncData} {q : Str} (F : FunD K "is_number" q (defArgs s_is_number) (defBody s_is_number) (defScope s_is_number) [] [] f fd) (zI : mg "isinstance" = none) (zi : mg "int" = none) (zb : mg "bool" = none) :
    FnOk P w K mg base CX0 1 f fd ["thing"] spNum := by
  refine F.ok scNum (fun vs H Q E h => ?_) (fun cdv A outer s H vs Q E hr h => ?_)
  · obtain ⟨x, rfl, _⟩ := h
    rfl
  · obtain ⟨x, rfl, fx, k⟩ := h
    refine ⟨_, PSs.nox (pss_one (ps_ret (pe_and (pe_callB call_isi rfl zI PyProof.Rows.boot_isinstance (pa_cons (pv 0) (pa_cons (pe_bltn (v := .ty "int") rfl zi PyProof.Rows.boot_int rfl) pa_nil)))
      (pe_one (pe_not (pe_callB call_isi rfl zI PyProof.Rows.boot_isinstance (pa_cons (pv 0) (pa_cons (pe_bltn (v := .ty "bool") rfl zb PyProof.Rows.boot_bool rfl) pa_nil)))))))), ?_⟩
    obtain ⟨n, ty, k1, k2⟩ := flat_ty (K := K) (H := H) fx
    refine ⟨_, rfl, x, .ty "int", _, _, _, rfl, .ty _, ty, k1, _, rfl, ?_⟩
    cases x with
    | int i => exact ⟨_, rfl, _, .ty "bool", _, _, _, rfl, .ty _, ty, k2, _, rfl, k⟩
    | bl b => exact ⟨_, rfl, _, .ty "bool", _, _, _, rfl, .ty _, ty, k2, _, rfl, k⟩
    | non => exact k
    | str s => exact k
    | byt _ => exact fx.elim
    | flt _ => exact fx.elim
    | ref _ => exact fx.elim
    | ty _ => exact fx.elim
theorem scBtw : FnScope ["thing", "least", "most"] ["thing", "least", "most"] (defScope s_is_between) := ⟨rfl, rfl, rfl, by decide +kernel, rfl, by decide +kernel, by decide +kernel⟩
theorem ok_btw {f : Addr} {fd : FuncData} {q : Str} (F : FunD K "is_between" q (defArgs s_is_between) (defBody s_is_between) (defScope s_is_between) [] [] f fd) (DN : Def P w K mg base CX0 1 "is_number" ["thing"] spNum) :
    FnOk P w K mg base CX0 2 f fd ["thing", "least", "most"] spBtw := by
  refine F.ok scBtw (fun vs H Q E h => ?_) (fun cdv A outer s H vs Q E hr h => ?_)
  · obtain ⟨x, lo, hi, rfl, _⟩ := h
    rfl
  · obtain ⟨x, lo, hi, rfl, fx, k⟩ := h
    refine ⟨_, PSs.nox (pss_one (ps_ret (pe_and (pe_def DN hr pass0 rfl (pa_cons (pv 0) pa_nil)) (pe_one (pe_chain op_le op_le (pv 1) (pv 0) (pv 2)))))), ?_⟩
    refine ⟨_, rfl, x, rfl, fx, _, rfl, ?_⟩
    cases x with
    | int i =>
      refine ⟨_, rfl, _, rfl, _, _, rfl, rfl, _, rfl, ?_⟩
      refine ite2 (fun c => ⟨_, rfl, _, _, rfl, rfl, ?_⟩) (fun c => ?_)
      · have z : btw lo hi (.int i) = decide (i ≤ hi) := by show (decide (lo ≤ i) && decide (i ≤ hi)) = _; rw [c]; rfl
        rw [z] at k
        exact k
      · have z : btw lo hi (.int i) = false := by
          show (decide (lo ≤ i) && decide (i ≤ hi)) = false
          cases h : decide (lo ≤ i) with
          | true => exact absurd h c
          | false => rfl
        rw [z] at k
        exact k
    | bl b => exact k
    | non => exact k
    | str s => exact k
    | byt _ => exact fx.elim
    | flt _ => exact fx.elim
    | ref _ => exact fx.elim
    | ty _ => exact fx.elim
theorem scSeq : FnScope ["thing", "least", "most"] ["thing", "least", "most"] (defScope s_is_sequence) := ⟨rfl, rfl, rfl, by decide +kernel, rfl, by decide +kernel, by decide +kernel⟩
theorem ok_seq {f : Addr} {fd : FuncData} {q : Str} (F : FunD K "is_sequence" q (defArgs s_is_sequence) (defBody s_is_sequence) (defScope s_is_sequence) [] [] f fd) (zI : mg "isinstance" = none) (zl : mg "list" = none) (zt : mg "tuple" = none) (zn : mg "len" = none) :
    FnOk P w K mg base CX0 1 f fd ["thing", "least", "most"] (spSeq K) := by
  refine F.ok scSeq (fun vs H Q E h => ?_) (fun cdv A outer s H vs Q E hr h => ?_)
  · obtain ⟨a, xs, lo, hi, rfl, _⟩ := h
    rfl
  · obtain ⟨a, xs, lo, hi, rfl, sq, k⟩ := h
    refine ⟨_, PSs.nox (pss_one (ps_ret (pe_and (pe_callB call_isiT rfl zI PyProof.Rows.boot_isinstance (pa_cons (pv 0) (pa_cons (pe_tup (pa_cons (pe_bltn (v := .ty "list") rfl zl PyProof.Rows.boot_list rfl) (pa_cons (pe_bltn (v := .ty "tuple") rfl zt PyProof.Rows.boot_tuple rfl) pa_nil))) pa_nil)))
      (pe_one (pe_chain op_le op_le (pv 1) (pe_callB call_len_seq rfl zn boot_len (pa_cons (pv 0) pa_nil)) (pv 2)))))), ?_⟩
    refine ⟨_, rfl, (by show 2 ≤ sizeLine; decide), fun p np => ?_⟩
    have sm := same_upd (o := .tup [.ty "list", .ty "tuple"]) np
    have sq' := sq.same sm
    have ty : ∃ t, TyX K (upd H p (.tup [.ty "list", .ty "tuple"])) (.ref a) t ∧ PySem.W.kitAny K t [.type "list", .type "tuple"] = some true := by
      rcases sq' with z | z
      · exact ⟨_, tyx_l z, any_lt.1⟩
      · exact ⟨_, tyx_t z, any_lt.2⟩
    obtain ⟨t, ty, ka⟩ := ty
    refine ⟨.ref a, p, _, t, _, true, rfl, upd_same, .cons (.ty _) (.cons (.ty _) .nil), ty, ka, true, rfl, ?_⟩
    refine ifT rfl ⟨_, rfl, _, rfl, a, xs, rfl, sq', _, _, rfl, rfl, _, rfl, ?_⟩
    have kk := k _ sm
    refine ite2 (fun c => ⟨_, rfl, _, _, rfl, rfl, ?_⟩) (fun c => ?_)
    · rw [c] at kk
      exact kk
    · have z : decide (lo ≤ (xs.length : Int)) = false := by
        cases h : decide (lo ≤ (xs.length : Int)) with
        | true => exact absurd h c
        | false => rfl
      rw [z] at kk
      exact kk
end
end K67

set_option Elab.async false
set_option linter.all false
set_option maxRecDepth 100000
set_option maxHeartbeats 8000000
namespace K67
open PySem PySem.Spec PyProof.Rows L2 Lf
/-- a source of draws of which at most n were mixed -/
def Src (H : Hp) (l : Addr) (n : Nat) : Prop := ∃ a b c : Int, H l = some (.lst [.int a, .int b, .int c]) ∧ 0 ≤ a ∧ (0 ≤ b ∧ b < 2147483587) ∧ 0 ≤ c ∧ c ≤ n
theorem yesT {σ : L2.St} {H : Hp} {A B : Hp → Prop} (h : A H) : tYes σ H fun b H3 => if b = true then A H3 else B H3 := by
  show if true = true then A H else B H
  rw [if_pos rfl]
  exact h
theorem Src.up {H : Hp} {l : Addr} {n m : Nat} (h : Src H l n) (e : n ≤ m) : Src H l m := by
  obtain ⟨a, b, c, h1, h2, h3, h4, h5⟩ := h
  exact ⟨a, b, c, h1, h2, h3, h4, by omega⟩
theorem Src.same {H H' : Hp} {l : Addr} {n : Nat} (h : Src H l n) (e : Same H H') : Src H' l n := by
  obtain ⟨a, b, c, h1, h2⟩ := h
  exact ⟨a, b, c, e _ _ h1, h2⟩
def spSource : Sp := fun vs H Q _ => ∃ n : Int, vs = [.int n] ∧ ∀ l H', H l = none → Same H H' → Src H' l 0 → Q (.ref l) H'
def spDraw : Sp := fun vs H Q _ => ∃ (l : Addr) (n : Nat) (m : Int), vs = [.ref l, .int m] ∧ Src H l n ∧ n ≤ 1000000 ∧ 0 < m ∧ m ≤ 1000 ∧ ∀ (k : Int) H', 0 ≤ k → k < m → But l H H' → Src H' l (n + 1) → Q (.int k) H'
section
variable {P : Program} {w : World} {K : PySem.W.Frag} {mg : Str → Option Value} {base : Heap}
theorem scSource : FnScope ["_law_cell"] ["_law_cell"] (defScope s_L_source) := ⟨rfl, rfl, rfl, by decide +kernel, rfl, by decide +kernel, by decide +kernel⟩
theorem ok_source {f : Addr} {fd : FuncData} {q : Str} (F : FunD K "_law_source" q (defArgs s_L_source) (defBody s_L_source) (defScope s_L_source) [] [] f fd) (zA : mg "abs" = none) (zI : mg "int" = none) :
    FnOk P w K mg base CX0 1 f fd ["_law_cell"] spSource := by
  refine F.ok scSource (fun vs H Q E h => ?_) (fun cdv A outer s H vs Q E hr h => ?_)
  · obtain ⟨n, rfl, _⟩ := h
    rfl
  · obtain ⟨n, rfl, k⟩ := h
    refine ⟨_, PSs.nox (pss_cons (ps_set (i := 0) scSource.nd rfl (.inl rfl) (pe_callB call_abs rfl zA boot_abs (pa_cons (pv 0) pa_nil)))
      (pss_one (ps_ret (pe_lst (pa_cons (pe_op op_mul (pv 0) (pe_callTy call_int1 rfl zI boot_int (pa_cons (pe_cmpR op_ge (pv 0) (pe_op op_pow pe_int pe_int) (nomark _)) pa_nil)))
        (pa_cons (pe_op op_mod (pe_callTy call_int1 rfl zI boot_int (pa_cons (pv 0) pa_nil)) pe_int)
        (pa_cons pe_int pa_nil))))))), ?_⟩
    refine ⟨_, rfl, n, rfl, ?_⟩
    have nn : 0 ≤ (if n < 0 then -n else n) := by split <;> omega
    generalize (if n < 0 then -n else n) = a at nn ⊢
    refine ⟨_, rfl, _, rfl, 10, 18, rfl, rfl, ⟨by decide, by decide, by decide⟩, a, _, rfl, rfl, .inr ⟨_, rfl, a, _, rfl, rfl, .inr ?_, ?_⟩⟩
    · split <;> decide
    refine ⟨_, rfl, .inl ⟨a, rfl, a, 2147483587, rfl, rfl, (show (0 : Int) < 2147483587 by decide), ?_⟩⟩
    refine ⟨(by show 3 ≤ sizeLine; decide), fun l hl => k l _ hl (same_upd hl) ⟨_, _, _, upd_same, ?_, ?_, by decide, by decide⟩⟩
    · split
      · omega
      · simp
    · constructor <;> omega
theorem scDraw : FnScope ["_law_source_here", "_law_many", "_law_digit", "_law_mixed"] ["_law_source_here", "_law_many"] (defScope s_L_draw) := ⟨rfl, rfl, rfl, by decide +kernel, rfl, by decide +kernel, by decide +kernel⟩
theorem ok_draw {f : Addr} {fd : FuncData} {q : Str} (F : FunD K "_law_draw" q (defArgs s_L_draw) (defBody s_L_draw) (defScope s_L_draw) [] [] f fd) (zI : mg "int" = none) :
    FnOk P w K mg base CX0 1 f fd ["_law_source_here", "_law_many"] spDraw := by
  refine F.ok scDraw (fun vs H Q E h => ?_) (fun cdv A outer s H vs Q E hr h => ?_)
  · obtain ⟨l, n, m, rfl, _⟩ := h
    rfl
  · obtain ⟨l, n, m, rfl, ⟨a, b, c, hl, ha, ⟨hb1, hb2⟩, hc1, hc2⟩, n1, m0, m1, k⟩ := h
    have gI (i : Int) := i
    refine ⟨_, PSs.nox (pss_cons (ps_if (pt_cmpR op_gt (pe_ix ix_list (pv 0) pe_int (fun _ _ => rfl)) pe_int (nomark _))
        (pss_cons (ps_set (i := 2) scDraw.nd rfl (.inl rfl) (pe_op op_mod (pe_callTy call_int1 rfl zI boot_int (pa_cons (pe_ix ix_list (pv 0) pe_int (fun _ _ => rfl)) pa_nil)) (pv 1)))
        (pss_cons (ps_asg (pe_op op_fdiv (pe_ix ix_list (pv 0) pe_int (fun _ _ => rfl)) (pv 1)) (pg_sub (pv 0) pe_int set_list))
        (pss_one (ps_ret (pv 2))))) pss_nil)
      (pss_cons (ps_asg (pe_op op_add (pe_ix ix_list (pv 0) pe_int (fun _ _ => rfl)) pe_int) (pg_sub (pv 0) pe_int set_list))
      (pss_cons (ps_set (i := 3) scDraw.nd rfl (.inl rfl) (pe_op op_mod (pe_callTy call_int1 rfl zI boot_int (pa_cons (pe_op op_mul (pe_op op_add (pe_op op_add (pe_ix ix_list (pv 0) pe_int (fun _ _ => rfl)) (pe_op op_mul pe_int (pe_ix ix_list (pv 0) pe_int (fun _ _ => rfl)))) pe_int) pe_int) pa_nil)) pe_int))
      (pss_cons (ps_set (i := 3) scDraw.nd rfl (.inl rfl) (pe_op op_mod (pe_callTy call_int1 rfl zI boot_int (pa_cons (pe_op op_mul (pv 3) (pe_op op_add (pe_op op_fdiv (pv 3) pe_int) pe_int)) pa_nil)) pe_int))
      (pss_one (ps_ret (pe_op op_mod (pe_callTy call_int1 rfl zI boot_int (pa_cons (pe_op op_fdiv (pe_op op_mod (pe_callTy call_int1 rfl zI boot_int (pa_cons (pe_op op_mul (pv 3) (pe_op op_add (pe_op op_fdiv (pv 3) pe_int) pe_int)) pa_nil)) pe_int) pe_int) pa_nil)) (pv 1)))))))), ?_⟩
    have at0 : atI [V.int a, V.int b, V.int c] 0 = some (.int a) := rfl
    refine ⟨_, rfl, l, _, 0, _, rfl, rfl, SqL.of hl, at0, a, 0, rfl, rfl, _, rfl, ?_⟩
    refine ite2 (fun h0 => ?_) (fun h0 => ?_)
    · refine ⟨_, rfl, l, _, 0, _, rfl, rfl, SqL.of hl, at0, .inl ⟨a, rfl, _, rfl, a, m, rfl, rfl, m0, ?_⟩⟩
      refine ⟨_, rfl, l, _, 0, _, rfl, rfl, SqL.of hl, at0, _, rfl, a, m, rfl, rfl, ⟨m0, by omega⟩, ?_⟩
      refine ⟨_, rfl, l, _, 0, 0, rfl, rfl, hl, rfl, ?_⟩
      exact ⟨_, rfl, k _ _ (Int.emod_nonneg _ (by omega)) (Int.emod_lt_of_pos _ m0) But.upd ⟨_, b, c, upd_same, Int.ediv_nonneg ha (by omega), ⟨hb1, hb2⟩, hc1, by omega⟩⟩
    · have at2 : atI [V.int a, V.int b, V.int c] 2 = some (.int c) := rfl
      have at1' : atI [V.int a, V.int b, V.int (c + 1)] 1 = some (.int b) := rfl
      have at2' : atI [V.int a, V.int b, V.int (c + 1)] 2 = some (.int (c + 1)) := rfl
      refine ⟨_, rfl, l, _, 2, _, rfl, rfl, SqL.of hl, at2, c, 1, rfl, rfl, _, rfl, l, _, 2, 2, rfl, rfl, hl, rfl, ?_⟩
      have hl' : L2.upd H l (.lst [V.int a, V.int b, V.int (c + 1)]) l = some (.lst [V.int a, V.int b, V.int (c + 1)]) := upd_same
      have bt : But l H (L2.upd H l (.lst [V.int a, V.int b, V.int (c + 1)])) := But.upd
      refine ⟨_, rfl, l, _, 1, _, rfl, rfl, SqL.of hl', at1', _, rfl, l, _, 2, _, rfl, rfl, SqL.of hl', at2', 7919, (c + 1), rfl, rfl, .inl ⟨by omega, by omega⟩, b, _, rfl, rfl, _, 13, rfl, rfl, _, 48271, rfl, rfl, .inl ⟨by omega, by omega⟩, .inl ⟨_, rfl, _, 2147483629, rfl, rfl, (show (0 : Int) < 2147483629 by decide), ?_⟩⟩
      generalize hz : (b + 7919 * (c + 1) + 13) * 48271 = z
      have z1 : 0 ≤ z % 2147483629 := Int.emod_nonneg _ (by decide)
      have z2 : z % 2147483629 < 2147483629 := Int.emod_lt_of_pos _ (by decide)
      obtain ⟨u, hu⟩ : ∃ u, z % 2147483629 = u := ⟨_, rfl⟩
      rw [hu] at z1 z2
      refine ⟨_, rfl, _, rfl, u, 1019, congrArg V.int hu, rfl, ⟨by decide, by decide⟩, _, 69621, rfl, rfl, u, _, congrArg V.int hu, rfl, .inl ⟨by omega, by omega⟩, .inl ⟨_, rfl, _, 2147483579, rfl, rfl, (show (0 : Int) < 2147483579 by decide), ?_⟩⟩
      generalize hy : u * (u / 1019 + 69621) = y
      have y1 : 0 ≤ y % 2147483579 := Int.emod_nonneg _ (by decide)
      have y2 : y % 2147483579 < 2147483579 := Int.emod_lt_of_pos _ (by decide)
      obtain ⟨v, hv⟩ : ∃ v, y % 2147483579 = v := ⟨_, rfl⟩
      rw [hv] at y1 y2
      refine ⟨_, rfl, _, rfl, v, 2003, congrArg V.int hv, rfl, ⟨by decide, by decide⟩, _, 40692, rfl, rfl, v, _, congrArg V.int hv, rfl, .inl ⟨by omega, by omega⟩, .inl ⟨_, rfl, _, 2147483549, rfl, rfl, (show (0 : Int) < 2147483549 by decide), ?_⟩⟩
      refine ⟨_, 3, rfl, rfl, ⟨by decide, by decide⟩, .inl ⟨_, rfl, _, rfl, _, m, rfl, rfl, m0, ?_⟩⟩
      exact k _ _ (Int.emod_nonneg _ (by omega)) (Int.emod_lt_of_pos _ m0) But.upd ⟨a, b, c + 1, upd_same, ha, ⟨hb1, hb2⟩, by omega, by omega⟩
end
end K67

set_option Elab.async false
set_option linter.all false
set_option maxRecDepth 100000
set_option maxHeartbeats 8000000
namespace K67
open PySem PySem.Spec PyProof.Rows L2 Lf
/-- what the head says, for one module -/
structure Txt (P : Program) (w : World) (K : PySem.W.Frag) (mg : Str → Option Value) (base : Heap) : Prop where
  d : He.SaysD fa fn K
  m : ex K = true
  gl : ∀ (i : Nat) (x : Str), fa[i]? = some (.glo x) → mg x = some (.ref (He.ga K x))
  fr : ∀ (i : Nat) (x : Str), fa[i]? = some (.free x) → mg x = none
  it : ∀ (i : Nat) (x : Str) (v : Int), fa[i]? = some (.int x v) → ∃ t, mg x = some (.int v t)
  st : ∀ (i : Nat) (x v : Str), fa[i]? = some (.str x v) → ∃ t, mg x = some (.str v t)
theorem pe_gstr {X : Cx} {x v : Str} {t : Tok} {pos : Pos} (hg : Gl X x) (hm : X.mg x = some (.str v t)) (hd : (x == ("__debug__" : Str)) = false := by decide +kernel) : PE X (.Name x pos) (tC (.str v)) := pe_glob hg hm ⟨t, rfl⟩ hd
/-- numbers as values -/
abbrev nv (i : Nat) : V := .int (i : Nat)
/-- the rows at r: lists -/
structure RowsL (K : PySem.W.Frag) (H : Hp) (r : Addr) (rows : List (List Nat)) : Prop where
  ex : ∃ as : List Addr, SqL K H r (as.map V.ref) ∧ as.length = rows.length ∧ ∀ (i : Nat) a row, as[i]? = some a → rows[i]? = some row → SqL K H a (row.map nv)
/-- .. tuples -/
structure RowsT (K : PySem.W.Frag) (H : Hp) (r : Addr) (rows : List (List Nat)) : Prop where
  ex : ∃ as : List Addr, SqT K H r (as.map V.ref) ∧ as.length = rows.length ∧ ∀ (i : Nat) a row, as[i]? = some a → rows[i]? = some row → SqT K H a (row.map nv)
theorem RowsL.same {K : PySem.W.Frag} {H H' : Hp} {r : Addr} {rows : List (List Nat)} (h : RowsL K H r rows) (e : Same H H') : RowsL K H' r rows := by
  obtain ⟨as, a, b, c⟩ := h.ex
  exact ⟨as, L2.Same.seq e a, b, fun i x row h1 h2 => L2.Same.seq e (c i x row h1 h2)⟩
theorem RowsT.same {K : PySem.W.Frag} {H H' : Hp} {r : Addr} {rows : List (List Nat)} (h : RowsT K H r rows) (e : Same H H') : RowsT K H' r rows := by
  obtain ⟨as, a, b, c⟩ := h.ex
  exact ⟨as, Lf.SqT.same e a, b, fun i x row h1 h2 => Lf.SqT.same e (c i x row h1 h2)⟩
theorem map_get {α β : Type} {f : α → β} {l : List α} {i : Nat} {y : β} (h : (l.map f)[i]? = some y) : ∃ a, l[i]? = some a ∧ y = f a := by
  rw [List.getElem?_map] at h
  cases e : l[i]? with
  | none => rw [e] at h; cases h
  | some a => rw [e] at h; exact ⟨a, rfl, (Option.some.inj h).symm⟩
theorem get_map {α β : Type} {f : α → β} {l : List α} {i : Nat} {a : α} (h : l[i]? = some a) : (l.map f)[i]? = some (f a) := by rw [List.getElem?_map, h]; rfl
theorem get_lt {α : Type} {l : List α} {i : Nat} {a : α} (h : l[i]? = some a) : i < l.length := (List.getElem?_eq_some_iff.mp h).1
theorem lt_get {α : Type} {l : List α} {i : Nat} (h : i < l.length) : ∃ a, l[i]? = some a := ⟨_, List.getElem?_eq_getElem h⟩
theorem seq_dec {lo hi : Int} {n : Nat} (a : lo ≤ (n : Int)) (b : (n : Int) ≤ hi) : (decide (lo ≤ (n : Int)) && decide ((n : Int) ≤ hi)) = true := by
  rw [decide_eq_true a, decide_eq_true b]
  rfl
theorem btw_nv {i n : Nat} (h : i < n) : btw 0 ((n : Int) - 1) (nv i) = true := by
  show (decide ((0 : Int) ≤ (i : Nat)) && decide (((i : Nat) : Int) ≤ (n : Int) - 1)) = true
  rw [decide_eq_true (by omega), decide_eq_true (by omega)]
  rfl
theorem all_true {n : Nat} : (List.replicate n true).all id = true := by
  rw [List.all_eq_true]
  intro x hx
  exact (List.mem_replicate.mp hx).2
/-- the form of a table -/
def Form (rows : List (List Nat)) (w : Nat) : Prop := 1 ≤ rows.length ∧ rows.length ≤ 2000 ∧ 1 ≤ w ∧ w ≤ 6 ∧ ∀ row ∈ rows, row.length = w ∧ ∀ t ∈ row, t < rows.length
def spForm (K : PySem.W.Frag) : Sp := fun vs H Q _ => ∃ r rows w, vs = [.ref r] ∧ RowsL K H r rows ∧ Form rows w ∧ ∀ H', Same H H' → Q .non H'
abbrev rLenS (K : PySem.W.Frag) : List V → Hp → VK → Prop := fun xs H Q => ∃ p ys, xs = [V.ref p] ∧ (SqL K H p ys ∨ SqT K H p ys) ∧ Q (V.int ys.length) H
abbrev teForm (K : PySem.W.Frag) : TE := fun σ H Q => (tCons (tVar 3) (tCons (tC (.int 0)) (tCons (tOp (rI0 fun i j => .int (i - j)) (tCB (rLenS K) (tCons (tVar 0) tNil)) (tC (.int 1))) tNil))) σ H fun vs H1 => spBtw vs H1 Q E0
section
variable {P : Program} {w : World} {K : PySem.W.Frag} {mg : Str → Option Value} {base : Heap}
theorem scForm : FnScope ["right", "place", "row", "entry"] ["right"] (defScope s_check_form) := ⟨rfl, rfl, rfl, by decide +kernel, rfl, by decide +kernel, by decide +kernel⟩
theorem ok_form {f : Addr} {fd : FuncData} {q : Str} (F : FunD K "_check_form" q (defArgs s_check_form) (defBody s_check_form) (defScope s_check_form) [] [] f fd) (T : Txt P w K mg base)
    (DS : Def P w K mg base CX0 1 "is_sequence" ["thing", "least", "most"] (spSeq K)) (DB : Def P w K mg base CX0 2 "is_between" ["thing", "least", "most"] spBtw) :
    FnOk P w K mg base CX0 3 f fd ["right"] (spForm K) := by
  obtain ⟨tM, gM⟩ := T.it 38 "MOST_SIZE" 2000 rfl
  obtain ⟨tL, gL⟩ := T.st 43 "LETTERS" "abcdef" rfl
  have zE : mg "enumerate" = none := T.fr 49 "enumerate" rfl
  have zn : mg "len" = none := T.fr 52 "len" rfl
  have za : mg "all" = none := T.fr 47 "all" rfl
  refine F.ok scForm (fun vs H Q E h => ?_) (fun cdv A outer s H vs Q E hr h => ?_)
  · obtain ⟨r, rows, wd, rfl, _⟩ := h
    rfl
  · obtain ⟨r, rows, wd, rfl, R, ⟨n1, n2, w1, w6, row⟩, k⟩ := h
    have r1 : Room 1 _ := hr.mono (by decide)
    refine ⟨_, PSs.nox (pss_cons (ps_if (pt_not (pt_val (pe_def DS r1 pass0 rfl (pa_cons (pv 0) (pa_cons pe_int (pa_cons (pe_gint rfl gM) pa_nil)))))) (pss_one ps_never) pss_nil)
      (pss_one (ps_for PassesOwn.never rfl (pi_enumA rfl zE (pv 0)) (pg_tup rfl (pgs_cons (pg_name (i := 1) scForm.nd rfl (.inl rfl)) (pgs_cons (pg_name (i := 2) scForm.nd rfl (.inl rfl)) pgs_nil)))
        (pss_cons (ps_if (PW.pt (pw_or (pt_not (pt_val (pe_def DS r1 pass0 rfl (pa_cons (pv 2) (pa_cons pe_int (pa_cons (pe_callB call_len_str rfl zn boot_len (pa_cons (pe_gstr rfl gL) pa_nil)) pa_nil))))))
            (pw_or1 (pt_cmpR op_ne (pe_callB call_len_seq rfl zn boot_len (pa_cons (pv 2) pa_nil)) (pe_callB call_len_seq rfl zn boot_len (pa_cons (pe_ix ix_list (pv 0) pe_int (fun _ _ => rfl)) pa_nil)) (nomark _))))) (pss_one ps_never) pss_nil)
        (pss_one (ps_if (pt_not (pt_val (pe_callB (cr_all rfl) rfl za (by decide +kernel) (pa_cons (pe_lc (own := [("entry", 3)]) (g := gName 3) (te := teForm K) (by rfl) scForm.nd (pi_list (pv 2)) (blkOk_by (own := [("entry", 3)]) (N := ["right", "place", "row", "entry"]) (sc := defScope s_check_form) (by decide +kernel)) (fun _ _ _ _ _ => pg_name (i := 3) scForm.nd rfl (Or.inl rfl)) (fun _ _ _ _ _ => pts_nil)
            (fun _ _ _ _ _ => by exact pe_def DB hr pass0 rfl (pa_cons (pv 3) (pa_cons pe_int (pa_cons (pe_op op_sub (pe_callB call_len_seq rfl zn boot_len (pa_cons (pv 0) pa_nil)) pe_int) pa_nil))))) pa_nil)))) (pss_one ps_never) pss_nil)))))), ?_⟩
    obtain ⟨as, sr, la, srow⟩ := R.ex
    have ln : (as.map V.ref).length = rows.length := by rw [List.length_map, la]
    refine ⟨_, rfl, r, as.map V.ref, 1, 2000, rfl, .inl sr, fun H1 s1 => ⟨_, rfl, ?_⟩⟩
    rw [seq_dec (by omega) (by omega)]
    refine ifF rfl ?_
    refine ⟨_, rfl, r, as.map V.ref, rfl, .inl ⟨L2.Same.seq s1 sr, ?_⟩⟩
    have wk : Walk (Ite K r) (as.map V.ref).length (fun H2 => Same H H2) (fun i H v H' => ∃ T x, v = .ref T ∧ H T = none ∧ H' = L2.upd H T (.tup [.int (i : Nat), x]) ∧ (as.map V.ref)[i]? = some x) := (walk_enumL (xs := as.map V.ref)).mono (fun H s => L2.Same.seq s sr) (fun i H x H' _ _ y => y)
    refine for_it wk (fun i σ H2 => ∃ v1 v2 : Option V, σ = [some (.ref r), v1, v2, none] ∧ Same H H2) ⟨none, none, rfl, s1⟩ (fun i σ H2 _ ⟨_, _, _, s⟩ => s) ?_ ?_
    · rintro i x σ H2 H3 hi ⟨v1, v2, rfl, s2⟩ ⟨T', y, rfl, nT, rfl, hy⟩
      obtain ⟨a, ha, rfl⟩ := map_get hy
      have hi2 : i < rows.length := by rw [← ln]; exact hi
      obtain ⟨rw_, hrw⟩ := lt_get hi2
      have sa := srow i a rw_ ha hrw
      obtain ⟨lw, ent⟩ := row rw_ (List.mem_of_getElem? hrw)
      refine ⟨T', _, rfl, SqT.of upd_same, rfl, _, _, rfl, _, _, rfl, rfl, ?_⟩
      have s3 := s2.trans (same_upd (o := .tup [.int (i : Nat), .ref a]) nT)
      generalize L2.upd H2 T' (.tup [.int (i : Nat), .ref a]) = H3 at s3 ⊢
      refine ⟨_, rfl, _, rfl, (by decide +kernel), a, rw_.map nv, 1, 6, rfl, .inl (L2.Same.seq s3 sa), fun H4 s4 => ⟨_, rfl, ?_⟩⟩
      rw [List.length_map, seq_dec (by omega) (by omega)]
      refine ifF rfl ?_
      have s5 := s3.trans s4
      obtain ⟨a0, h0⟩ := lt_get (show 0 < as.length by omega)
      obtain ⟨rw0, hrw0⟩ := lt_get (show 0 < rows.length by omega)
      have lw0 := (row rw0 (List.mem_of_getElem? hrw0)).1
      refine ⟨_, rfl, a, rw_.map nv, rfl, .inl (L2.Same.seq s5 sa), _, rfl, r, as.map V.ref, 0, .ref a0, rfl, rfl, L2.Same.seq s5 sr, ?_, a0, rw0.map nv, rfl, .inl (L2.Same.seq s5 (srow 0 a0 rw0 h0 hrw0)), rfl, _, rfl, ?_⟩
      · exact atI_nat (j := 0) (get_map h0)
      refine ifF (by simp [lw, lw0]) ?_
      refine ⟨_, rfl, a, rfl, ⟨_, L2.Same.seq s5 sa⟩, fun D nD => ?_⟩
      refine lc_list (K := K) (a := a) (xs := rw_.map nv) (fun j Hc => But D H4 Hc ∧ Hc D = some (.lst (List.replicate j (V.bl true)))) ⟨But.upd, upd_same⟩ (fun j Hc _ ⟨bc, _⟩ => L2.Same.seq (Same.but (L2.Same.refl _) nD bc) (L2.Same.seq s5 sa)) (fun j z Hc hz ⟨bc, hD⟩ => ?_) (fun Hc ⟨bc, hD⟩ => ?_)
      · obtain ⟨t, ht, rfl⟩ := map_get hz
        refine ⟨rfl, yesT ?_⟩
        have sc := s5.trans (Same.but (L2.Same.refl _) nD bc)
        refine ⟨_, rfl, _, rfl, r, as.map V.ref, rfl, .inl (L2.Same.seq sc sr), _, 1, rfl, rfl, nv t, 0, _, rfl, True.intro, ?_⟩
        rw [ln, btw_nv (ent t (List.mem_of_getElem? ht))]
        refine ⟨_, hD, ?_, But.trans bc But.upd, ?_⟩
        · rw [List.length_replicate]
          have := get_lt ht
          show j < 16777216
          omega
        · rw [upd_same, List.replicate_succ']
      · rw [List.length_map] at hD
        have sc := s5.trans (Same.but (L2.Same.refl _) nD bc)
        refine ⟨D, List.replicate rw_.length true, rfl, SqL.of (by rw [List.map_replicate]; exact hD), ?_⟩
        rw [all_true]
        refine ⟨_, rfl, ?_⟩
        exact ifF rfl ⟨_, _, rfl, sc⟩
    · rintro σ H2 ⟨v1, v2, rfl, s2⟩
      exact k _ s2
end
end K67

set_option Elab.async false
set_option linter.all false
set_option maxRecDepth 100000
set_option maxHeartbeats 8000000
namespace K67
open PySem PySem.Spec PyProof.Rows L2 Lf
/-- how the elements are made: a tuple of None and pairs -/
structure MadeT (K : PySem.W.Frag) (H : Hp) (t : Addr) (m : List (Nat × Nat)) : Prop where
  ex : ∃ ps : List Addr, SqT K H t (.non :: ps.map V.ref) ∧ ps.length = m.length ∧ ∀ (k : Nat) a p, ps[k]? = some a → m[k]? = some p → SqT K H a [nv p.1, nv p.2]
theorem MadeT.same {K : PySem.W.Frag} {H H' : Hp} {t : Addr} {m : List (Nat × Nat)} (h : MadeT K H t m) (e : Same H H') : MadeT K H' t m := by
  obtain ⟨ps, a, b, c⟩ := h.ex
  exact ⟨ps, Lf.SqT.same e a, b, fun k x p h1 h2 => Lf.SqT.same e (c k x p h1 h2)⟩
/-- .. the list that grows -/
def MadeL (H : Hp) (M : Addr) (m : List (Nat × Nat)) : Prop := ∃ ps : List Addr, H M = some (.lst (.non :: ps.map V.ref)) ∧ ps.length = m.length ∧ ∀ (k : Nat) a p, ps[k]? = some a → m[k]? = some p → H a = some (.tup [nv p.1, nv p.2])
theorem MadeL.same {H H' : Hp} {M : Addr} {m : List (Nat × Nat)} (h : MadeL H M m) (e : Same H H') : MadeL H' M m := by
  obtain ⟨ps, a, b, c⟩ := h
  exact ⟨ps, e _ _ a, b, fun k x p h1 h2 => e _ _ (c k x p h1 h2)⟩
def spMade (K : PySem.W.Frag) : Sp := fun vs H Q _ => ∃ r rows m, vs = [.ref r] ∧ RowsT K H r rows ∧ Mon.madeTab 0 rows [] = some m ∧ m.length ≤ 2000 ∧ ∀ t H', Same H H' → MadeT K H' t m → Q (.ref t) H'
theorem len_grow {rows : List (List Nat)} {m m' : List (Nat × Nat)} {i : Nat} (h : Mon.madeTab 0 rows [] = some m) (h' : Mon.madeTab 0 (rows.take i) [] = some m') : m'.length ≤ m.length := by
  have e := List.take_append_drop i rows
  rw [← e, Mon.madeTab_app, h', Option.bind_some] at h
  obtain ⟨x, hx, _⟩ := Mon.madeTab_ok h
  rw [hx, List.length_append]
  omega
theorem len_growR {row : List Nat} {m m2 m' : List (Nat × Nat)} {i c : Nat} (h : Mon.madeRow i 0 row m = some m2) (h' : Mon.madeRow i 0 (row.take c) m = some m') : m'.length ≤ m2.length := by
  have e := List.take_append_drop c row
  rw [← e, Mon.madeRow_app, h', Option.bind_some] at h
  obtain ⟨x, hx, _⟩ := Mon.madeRow_ok h
  rw [hx, List.length_append]
  omega
section
variable {P : Program} {w : World} {K : PySem.W.Frag} {mg : Str → Option Value} {base : Heap}
theorem scMade : FnScope ["right", "made", "number", "row", "letter", "reached"] ["right"] (defScope s_made_by) := ⟨rfl, rfl, rfl, by decide +kernel, rfl, by decide +kernel, by decide +kernel⟩
theorem ok_made {f : Addr} {fd : FuncData} {q : Str} (F : FunD K "_made_by" q (defArgs s_made_by) (defBody s_made_by) (defScope s_made_by) [] [] f fd) (T : Txt P w K mg base) :
    FnOk P w K mg base CX0 1 f fd ["right"] (spMade K) := by
  have zE : mg "enumerate" = none := T.fr 49 "enumerate" rfl
  have zn : mg "len" = none := T.fr 52 "len" rfl
  have zt : mg "tuple" = none := T.fr 60 "tuple" rfl
  refine F.ok scMade (fun vs H Q E h => ?_) (fun cdv A outer s H vs Q E hr h => ?_)
  · obtain ⟨r, rows, m, rfl, _⟩ := h
    rfl
  · obtain ⟨r, rows, m, rfl, R, hm, lm, k⟩ := h
    refine ⟨_, PSs.nox (pss_cons (ps_set (i := 1) scMade.nd rfl (.inl rfl) (pe_lst (pa_cons pe_non pa_nil)))
      (pss_cons (ps_for PassesOwn.never rfl (pi_enumA rfl zE (pv 0)) (pg_tup rfl (pgs_cons (pg_name (i := 2) scMade.nd rfl (.inl rfl)) (pgs_cons (pg_name (i := 3) scMade.nd rfl (.inl rfl)) pgs_nil)))
        (pss_cons (ps_if (pt_cmpR op_ge (pv 2) (pe_callB call_len_seq rfl zn boot_len (pa_cons (pv 1) pa_nil)) (nomark _)) (pss_one ps_never) pss_nil)
        (pss_one (ps_for PassesOwn.never rfl (pi_enumA rfl zE (pv 3)) (pg_tup rfl (pgs_cons (pg_name (i := 4) scMade.nd rfl (.inl rfl)) (pgs_cons (pg_name (i := 5) scMade.nd rfl (.inl rfl)) pgs_nil)))
          (pss_cons (ps_if (pt_cmpR op_gt (pv 5) (pe_callB call_len_seq rfl zn boot_len (pa_cons (pv 1) pa_nil)) (nomark _)) (pss_one ps_never) pss_nil)
          (pss_one (ps_if (pt_cmpR op_eq (pv 5) (pe_callB call_len_seq rfl zn boot_len (pa_cons (pv 1) pa_nil)) (nomark _))
            (pss_one (ps_expr (pe_bm PySem.F.plainAttrs_list PySem.F.slot_list_append PySem.F.type_list_append mt_append (pv 1) (pa_cons (pe_tup (pa_cons (pv 2) (pa_cons (pv 4) pa_nil))) pa_nil)))) pss_nil)))))))
      (pss_one (ps_ret (pe_callTy call_tuple_of rfl zt PyProof.Rows.boot_tuple (pa_cons (pv 1) pa_nil)))))), ?_⟩
    obtain ⟨as, sr, la, srow⟩ := R.ex
    have ln : (as.map V.ref).length = rows.length := by rw [List.length_map, la]
    refine ⟨(by show 1 ≤ sizeLine; decide), fun M nM => ?_⟩
    have s1 := same_upd (o := .lst [V.non]) nM
    have m1 : MadeL (L2.upd H M (.lst [V.non])) M [] := ⟨[], upd_same, rfl, fun k a p h => by simp at h⟩
    generalize L2.upd H M (.lst [V.non]) = H1 at s1 m1 ⊢
    refine ⟨_, rfl, r, as.map V.ref, rfl, .inr ⟨Lf.SqT.same s1 sr, ?_⟩⟩
    have wk : Walk (Itet K r) (as.map V.ref).length (fun H2 => Same H H2) (fun i H v H' => ∃ T x, v = .ref T ∧ H T = none ∧ H' = L2.upd H T (.tup [.int (i : Nat), x]) ∧ (as.map V.ref)[i]? = some x) := (walk_enumT (xs := as.map V.ref)).mono (fun H s => Lf.SqT.same s sr) (fun i H x H' _ _ y => y)
    refine for_it wk (fun i σ H2 => ∃ v2 v3 v4 v5 : Option V, σ = [some (.ref r), some (.ref M), v2, v3, v4, v5] ∧ Same H H2 ∧ ∃ m', Mon.madeTab 0 (rows.take i) [] = some m' ∧ MadeL H2 M m') ⟨none, none, none, none, rfl, s1, [], by simp [Mon.madeTab], m1⟩ (fun i σ H2 _ ⟨_, _, _, _, _, s, _⟩ => s) ?_ ?_
    · rintro i x σ H2 H3 hi ⟨v2, v3, v4, v5, rfl, s2, m', hm', ml⟩ ⟨T', y, rfl, nT, rfl, hy⟩
      obtain ⟨a, ha, rfl⟩ := map_get hy
      have hi2 : i < rows.length := by rw [← ln]; exact hi
      obtain ⟨row, hrow⟩ := lt_get hi2
      have sa := srow i a row ha hrow
      obtain ⟨m0, e0, i0, m2, e2, e3⟩ := Mon.madeTab_at hm hrow
      rw [hm'] at e0
      cases e0
      have l2 := len_grow hm e3
      refine ⟨T', _, rfl, SqT.of upd_same, rfl, _, _, rfl, _, _, rfl, rfl, ?_⟩
      have u3 := same_upd (o := .tup [.int (i : Nat), .ref a]) nT
      have s3 := s2.trans u3
      have ml3 := ml.same u3
      generalize L2.upd H2 T' (.tup [.int (i : Nat), .ref a]) = H3 at s3 ml3 ⊢
      clear u3 ml
      obtain ⟨ps, hM, lp, _⟩ := id ml3
      refine ⟨_, rfl, _, rfl, M, _, rfl, .inl (SqL.of hM), _, _, rfl, rfl, _, rfl, ?_⟩
      refine ifF (by rw [decide_eq_false]; simp; omega) ?_
      clear hM lp
      have sa3 := Lf.SqT.same s3 sa
      refine ⟨_, rfl, a, row.map nv, rfl, .inr ⟨sa3, ?_⟩⟩
      have wk2 : Walk (Itet K a) (row.map nv).length (fun H2 => Same H H2) (fun i H v H' => ∃ T x, v = .ref T ∧ H T = none ∧ H' = L2.upd H T (.tup [.int (i : Nat), x]) ∧ (row.map nv)[i]? = some x) := (walk_enumT (xs := row.map nv)).mono (fun H s => Lf.SqT.same s sa) (fun i H x H' _ _ y => y)
      refine for_it wk2 (fun j σ H4 => ∃ v4 v5 : Option V, σ = [some (.ref r), some (.ref M), some (nv i), some (.ref a), v4, v5] ∧ Same H H4 ∧ ∃ m'', Mon.madeRow i 0 (row.take j) m' = some m'' ∧ MadeL H4 M m'') ⟨_, _, rfl, s3, m', by simp [Mon.madeRow], ml3⟩ (fun j σ H4 _ ⟨_, _, _, s, _⟩ => s) ?_ ?_
      · rintro j x σ H4 H5 hj ⟨v4, v5, rfl, s4, m4, hm4, ml4⟩ ⟨T2, y, rfl, nT2, rfl, hy2⟩
        obtain ⟨t, ht, rfl⟩ := map_get hy2
        obtain ⟨m5, e5, t5, e6⟩ := Mon.madeRow_at e2 ht
        rw [hm4] at e5
        cases e5
        have l4 := len_growR e2 hm4
        refine ⟨T2, _, rfl, SqT.of upd_same, rfl, _, _, rfl, _, _, rfl, rfl, ?_⟩
        have u5 := same_upd (o := .tup [.int (j : Nat), nv t]) nT2
        have s5 := s4.trans u5
        have ml5 := ml4.same u5
        generalize L2.upd H4 T2 (.tup [.int (j : Nat), nv t]) = H5 at s5 ml5 ⊢
        clear u5 ml4
        obtain ⟨ps, hM, lp, pp⟩ := id ml5
        have len : (V.non :: ps.map V.ref).length = m4.length + 1 := by rw [List.length_cons, List.length_map, lp]
        refine ⟨_, rfl, _, rfl, M, _, rfl, .inl (SqL.of hM), _, _, rfl, rfl, _, rfl, ?_⟩
        refine ifF (by rw [decide_eq_false]; rw [len]; omega) ?_
        refine ⟨_, rfl, _, rfl, M, _, rfl, .inl (SqL.of hM), rfl, _, rfl, ?_⟩
        refine ite2 (fun c => ?_) (fun c => ?_)
        · have ct : t = m4.length + 1 := by
            have := of_decide_eq_true c
            rw [len] at this
            injection this with this
            omega
          rw [if_pos ct] at e6
          refine ⟨_, rfl, .inl ⟨rfl, _, SqL.of hM⟩, _, rfl, _, rfl, (by show 2 ≤ sizeLine; decide), fun N nN => ?_⟩
          have u6 := same_upd (o := .tup [nv i, nv j]) nN
          have hN : L2.upd H5 N (.tup [nv i, nv j]) N = some (.tup [nv i, nv j]) := upd_same
          have s6 := s5.trans u6
          have hM6 := u6 _ _ hM
          have pp6 : ∀ (k : Nat) a p, ps[k]? = some a → m4[k]? = some p → L2.upd H5 N (.tup [nv i, nv j]) a = some (.tup [nv p.1, nv p.2]) := fun k a p h1 h2 => u6 _ _ (pp k a p h1 h2)
          have nMN : N ≠ M := fun z => by rw [z, hM] at nN; cases nN
          generalize L2.upd H5 N (.tup [nv i, nv j]) = H6 at s6 hM6 pp6 hN ⊢
          refine ⟨M, _, _, rfl, rfl, hM6, by rw [len]; show m4.length + 1 < 16777216; omega, _, _, rfl, fun b o e => ?_, _, e6, ps ++ [N], ?_, by simp [lp], fun k a p h1 h2 => ?_⟩
          · rw [upd_ne (ne_of_none e nM)]
            exact s6 _ _ e
          · rw [upd_same]
            simp
          · by_cases hk : k < ps.length
            · rw [List.getElem?_append_left hk] at h1
              rw [List.getElem?_append_left (by omega)] at h2
              have := pp6 k a p h1 h2
              rw [upd_ne (fun z => by rw [z, hM6] at this; cases this)]
              exact this
            · have hk2 : k = ps.length := by
                have := get_lt h1
                rw [List.length_append, List.length_singleton] at this
                omega
              rw [hk2, List.getElem?_append_right (Nat.le_refl _), Nat.sub_self] at h1
              rw [hk2, lp, List.getElem?_append_right (Nat.le_refl _), Nat.sub_self] at h2
              cases h1
              cases h2
              rw [upd_ne nMN]
              exact hN
        · have ct : t ≠ m4.length + 1 := fun z => c (by
            rw [len, z]
            exact decide_eq_true rfl)
          rw [if_neg ct] at e6
          exact ⟨_, _, rfl, s5, _, e6, ml5⟩
      · rintro σ H4 ⟨v4, v5, rfl, s4, m4, hm4, ml4⟩
        rw [List.length_map, List.take_length, e2] at hm4
        cases hm4
        exact ⟨_, _, _, _, rfl, s4, _, e3, ml4⟩
    · rintro σ H2 ⟨v2, v3, v4, v5, rfl, s2, m', hm', ps, hM, lp, pp⟩
      rw [ln, List.take_length, hm] at hm'
      cases hm'
      refine ⟨_, rfl, M, _, rfl, .inl ⟨SqL.of hM, fun t nt => ?_⟩⟩
      have u3 := same_upd (o := .tup (V.non :: ps.map V.ref)) nt
      exact k t _ (s2.trans u3) ⟨ps, SqT.of upd_same, lp, fun k a p h1 h2 => SqT.of (u3 _ _ (pp k a p h1 h2))⟩
end
end K67

set_option Elab.async false
set_option linter.all false
set_option maxRecDepth 100000
set_option maxHeartbeats 8000000
namespace K67
open PySem PySem.Spec PyProof.Rows L2 Lf
theorem sIx1 {n : Nat} : HT.sIx (n + 1) 0 (some 1) = 1 := by
  unfold HT.sIx
  simp
theorem cut1 {x : V} {r : List V} : cutV (x :: r) (some 1) none = r := by
  unfold cutV
  rw [List.length_cons, sIx1]
  simp [HT.sIx]
def spLeft (K : PySem.W.Frag) : Sp := fun vs H Q _ => ∃ r t rows m, vs = [.ref r, .ref t] ∧ RowsT K H r rows ∧ MadeT K H t m ∧ rows ≠ [] ∧ m.length ≤ 2000 ∧ (∀ (k : Nat) p, m[k]? = some p → p.1 < k + 1 ∧ ∀ row ∈ rows, p.2 < row.length) ∧
  (∀ (i k : Nat) l, (Mon.leftTab rows (m.take i))[k]? = some l → l.length ≤ 2000 ∧ ∀ x ∈ l, x < rows.length) ∧ ∀ q H', Same H H' → RowsT K H' q (Mon.leftTab rows m) → Q (.ref q) H'
abbrev teLeft (K : PySem.W.Frag) : TE := tOp (rIxT K) (tOp (rIxT K) (tVar 0) (tVar 5)) (tVar 4)
/-- rows[x][c] -/
theorem ix2 {K : PySem.W.Frag} {H : Hp} {r : Addr} {as : List Addr} {rows : List (List Nat)} (sr : SqT K H r (as.map V.ref)) (la : as.length = rows.length) (srow : ∀ (i : Nat) a row, as[i]? = some a → rows[i]? = some row → SqT K H a (row.map nv)) {x c : Nat} (hx : x < rows.length) (hc : ∀ row ∈ rows, c < row.length) {Q : VK}
    (k : Q (nv ((rows.getD x []).getD c 0)) H) : rIxT K (.ref r) (nv x) H fun y H' => rIxT K y (nv c) H' Q := by
  obtain ⟨a, ha⟩ := lt_get (show x < as.length by omega)
  obtain ⟨row, hrow⟩ := lt_get hx
  obtain ⟨t, ht⟩ := lt_get (hc row (List.mem_of_getElem? hrow))
  rw [Mon.getD_of hrow, Mon.getD_of ht] at k
  exact ⟨r, as.map V.ref, _, .ref a, rfl, rfl, sr, atI_nat (get_map ha), a, row.map nv, _, nv t, rfl, rfl, srow x a row ha hrow, atI_nat (get_map ht), k⟩
section
variable {P : Program} {w : World} {K : PySem.W.Frag} {mg : Str → Option Value} {base : Heap}
theorem scLeft : FnScope ["right", "made", "table", "before", "letter", "number"] ["right", "made"] (defScope s_left_table) := ⟨rfl, rfl, rfl, by decide +kernel, rfl, by decide +kernel, by decide +kernel⟩
theorem ok_left {f : Addr} {fd : FuncData} {q : Str} (F : FunD K "_left_table" q (defArgs s_left_table) (defBody s_left_table) (defScope s_left_table) [] [] f fd) (T : Txt P w K mg base) :
    FnOk P w K mg base CX0 1 f fd ["right", "made"] (spLeft K) := by
  have zt : mg "tuple" = none := T.fr 60 "tuple" rfl
  refine F.ok scLeft (fun vs H Q E h => ?_) (fun cdv A outer s H vs Q E hr h => ?_)
  · obtain ⟨r, t, rows, m, rfl, _⟩ := h
    rfl
  · obtain ⟨r, t, rows, m, rfl, R, M, ne, lm, hm, hL, k⟩ := h
    refine ⟨_, PSs.nox (pss_cons (ps_set (i := 2) scLeft.nd rfl (.inl rfl) (pe_lst (pa_cons (pe_ix ix_tup (pv 0) pe_int (fun _ _ => rfl)) pa_nil)))
      (pss_cons (ps_for PassesOwn.never rfl (pi_tup (pe_slice sl_tup (pv 1) (po_some pe_int) po_none)) (pg_tup rfl (pgs_cons (pg_name (i := 3) scLeft.nd rfl (.inl rfl)) (pgs_cons (pg_name (i := 4) scLeft.nd rfl (.inr rfl)) pgs_nil)))
        (pss_one (ps_expr (pe_bm PySem.F.plainAttrs_list PySem.F.slot_list_append PySem.F.type_list_append mt_append (pv 2) (pa_cons (pe_callTy call_tuple_of rfl zt PyProof.Rows.boot_tuple
          (pa_cons (pe_lc (own := [("number", 5)]) (g := gName 5) (te := teLeft K) (by rfl) scLeft.nd (pi_tup (pe_ix ix_list (pv 2) (pv 3) (fun _ _ => rfl))) (blkOk_by (own := [("number", 5)]) (N := ["right", "made", "table", "before", "letter", "number"]) (sc := defScope s_left_table) (by decide +kernel)) (fun _ _ _ _ _ => pg_name (i := 5) scLeft.nd rfl (Or.inl rfl)) (fun _ _ _ _ _ => pts_nil)
            (fun _ _ _ _ _ => by exact pe_ix ix_tup (pe_ix ix_tup (pv 0) (pv 5) (fun _ _ => rfl)) (pv 4) (fun _ _ => rfl))) pa_nil)) pa_nil)))))
      (pss_one (ps_ret (pe_callTy call_tuple_of rfl zt PyProof.Rows.boot_tuple (pa_cons (pv 2) pa_nil)))))), ?_⟩
    obtain ⟨as, sr, la, srow⟩ := R.ex
    obtain ⟨ps, sm, lp, sp⟩ := M.ex
    have n0 : 0 < rows.length := List.length_pos_iff.mpr ne
    obtain ⟨a0, ha0⟩ := lt_get (show 0 < as.length by omega)
    obtain ⟨row0, hrow0⟩ := lt_get n0
    refine ⟨_, rfl, r, as.map V.ref, 0, .ref a0, rfl, rfl, sr, atI_nat (j := 0) (get_map ha0), (by show 1 ≤ sizeLine; decide), fun B nB => ?_⟩
    have s1 := same_upd (o := .lst [V.ref a0]) nB
    have hB1 : L2.upd H B (.lst [V.ref a0]) B = some (.lst ([a0].map V.ref)) := upd_same
    generalize L2.upd H B (.lst [V.ref a0]) = H1 at s1 hB1 ⊢
    refine ⟨_, rfl, 1, rfl, t, _, rfl, Lf.SqT.same s1 sm, ?_, fun S nS => ⟨S, rfl, ⟨_, SqT.of upd_same⟩, ?_⟩⟩
    · rw [List.length_cons, sIx1]
      rintro ⟨z, _⟩
      exact absurd z (by decide)
    rw [cut1]
    have u2 := same_upd (o := .tup (ps.map V.ref)) nS
    have hS : L2.upd H1 S (.tup (ps.map V.ref)) S = some (.tup (ps.map V.ref)) := upd_same
    have s2 := s1.trans u2
    have hB2 := u2 _ _ hB1
    have nSB : S ≠ B := fun z => by rw [z, hB1] at nS; cases nS
    generalize L2.upd H1 S (.tup (ps.map V.ref)) = H2 at s2 hS hB2 ⊢
    clear u2 s1 hB1 nS
    have lps : (ps.map V.ref).length = m.length := by rw [List.length_map, lp]
    refine for_tup (K := K) (a := S) (xs := ps.map V.ref) (fun i σ Hn => ∃ v3 v4 : Option V, σ = [some (.ref r), some (.ref t), some (.ref B), v3, v4, none] ∧ Same H Hn ∧ Hn S = some (.tup (ps.map V.ref)) ∧ ∃ bs : List Addr, Hn B = some (.lst (bs.map V.ref)) ∧ bs.length = (Mon.leftTab rows (m.take i)).length ∧
        ∀ (j : Nat) b l, bs[j]? = some b → (Mon.leftTab rows (m.take i))[j]? = some l → SqT K H b (l.map nv) ∨ Hn b = some (.tup (l.map nv)))
      ⟨none, none, rfl, s2, hS, [a0], hB2, rfl, fun j b l h1 h2 => ?_⟩ (fun i σ Hn _ ⟨_, _, _, _, h, _⟩ => SqT.of h) (fun i x σ Hn hx ⟨v3, v4, eσ, sn, hSn, bs, hBn, lb, pb⟩ => ?_) (fun σ Hn ⟨v3, v4, eσ, sn, hSn, bs, hBn, lb, pb⟩ => ?_)
    · cases j with
      | zero =>
        cases h1
        have e : row0 = l := by
          have : Mon.leftTab rows (m.take 0) = [rows.getD 0 []] := rfl
          rw [this, Mon.getD_of hrow0] at h2
          exact Option.some.inj h2
        rw [← e]
        exact .inl (srow 0 a0 row0 ha0 hrow0)
      | succ j => simp at h1
    · subst eσ
      obtain ⟨pa, hpa, rfl⟩ := map_get hx
      obtain ⟨p, hp⟩ := lt_get (show i < m.length by have := get_lt hpa; omega)
      obtain ⟨b1, c1⟩ := hm i p hp
      have eL : Mon.leftTab rows (m.take (i + 1)) = Mon.leftStep rows (Mon.leftTab rows (m.take i)) p := by rw [(Mon.take_cons hp).2.1, Mon.left_snoc]
      have lL : (Mon.leftTab rows (m.take i)).length = i + 1 := by rw [Mon.left_len, (Mon.take_cons hp).2.2]
      obtain ⟨b, hb⟩ := lt_get (show p.1 < bs.length by omega)
      obtain ⟨l, hl⟩ := lt_get (show p.1 < (Mon.leftTab rows (m.take i)).length by omega)
      obtain ⟨ll, lx⟩ := hL i p.1 l hl
      have sb : SqT K Hn b (l.map nv) := by
        rcases pb _ b l hb hl with z | z
        · exact Lf.SqT.same sn z
        · exact SqT.of z
      refine ⟨pa, _, rfl, Lf.SqT.same sn (sp i pa p hpa hp), rfl, _, _, rfl, _, _, rfl, rfl, ?_⟩
      refine ⟨_, rfl, .inl ⟨rfl, _, SqL.of hBn⟩, _, rfl, _, rfl, B, bs.map V.ref, _, .ref b, rfl, rfl, SqL.of hBn, atI_nat (get_map hb), b, rfl, ⟨_, sb⟩, fun D nD => ?_⟩
      refine lc_tup (K := K) (a := b) (xs := l.map nv) (fun j Hc => But D Hn Hc ∧ Hc D = some (.lst ((l.take j).map fun x => nv ((rows.getD x []).getD p.2 0)))) ⟨But.upd, upd_same⟩ (fun j Hc _ ⟨bc, _⟩ => Lf.SqT.same (Same.but (L2.Same.refl _) nD bc) sb) (fun j z Hc hz ⟨bc, hD⟩ => ?_) (fun Hc ⟨bc, hD⟩ => ?_)
      · obtain ⟨x, hxx, rfl⟩ := map_get hz
        refine ⟨rfl, yesT ?_⟩
        have sc := sn.trans (Same.but (L2.Same.refl _) nD bc)
        have xl := lx x (List.mem_of_getElem? hxx)
        obtain ⟨a, ha⟩ := lt_get (show x < as.length by omega)
        obtain ⟨row, hrow⟩ := lt_get xl
        obtain ⟨e, he⟩ := lt_get (c1 row (List.mem_of_getElem? hrow))
        refine ⟨_, rfl, _, rfl, r, as.map V.ref, _, .ref a, rfl, rfl, Lf.SqT.same sc sr, atI_nat (get_map ha), _, rfl, a, row.map nv, _, nv e, rfl, rfl, Lf.SqT.same sc (srow x a row ha hrow), atI_nat (get_map he), ?_⟩
        refine ⟨_, hD, ?_, But.trans bc But.upd, ?_⟩
        · rw [List.length_map, List.length_take]
          have := get_lt hxx
          show min j l.length < 16777216
          omega
        · rw [upd_same, take_snoc hxx, List.map_append, List.map_cons, List.map_nil, Mon.getD_of hrow, Mon.getD_of he]
      · rw [List.length_map, List.take_length] at hD
        have sc := Same.but (L2.Same.refl _) nD bc
        refine ⟨D, _, rfl, .inl ⟨SqL.of hD, fun N nN => ?_⟩⟩
        have u3 := sc.trans (same_upd (o := .tup (l.map fun x => nv ((rows.getD x []).getD p.2 0))) nN)
        have hN : L2.upd Hc N (.tup (l.map fun x => nv ((rows.getD x []).getD p.2 0))) N = some (.tup (l.map fun x => nv ((rows.getD x []).getD p.2 0))) := upd_same
        generalize L2.upd Hc N (.tup (l.map fun x => nv ((rows.getD x []).getD p.2 0))) = H3 at u3 hN ⊢
        have hB3 := u3 _ _ hBn
        have nNB : N ≠ B := fun z => by rw [z, hB3] at hN; cases hN
        refine ⟨B, _, _, rfl, rfl, hB3, by rw [List.length_map, lb, lL]; have := get_lt hp; show i + 1 < 16777216; omega, _, _, rfl, fun c o e => ?_, by rw [upd_ne nSB]; exact u3 _ _ hSn, bs ++ [N], by rw [upd_same]; simp, by rw [eL, Mon.leftStep, List.length_append, List.length_append, lb]; rfl, fun j c l2 h1 h2 => ?_⟩
        · rw [upd_ne (ne_of_none e nB)]
          exact (sn.trans u3) _ _ e
        · rw [eL, Mon.leftStep] at h2
          by_cases hj : j < bs.length
          · rw [List.getElem?_append_left hj] at h1
            rw [List.getElem?_append_left (by omega)] at h2
            rcases pb j c l2 h1 h2 with z | z
            · exact .inl z
            · have z3 := u3 _ _ z
              exact .inr (by rw [upd_ne (fun y => by rw [y, hB3] at z3; cases z3)]; exact z3)
          · have hj2 : j = bs.length := by
              have := get_lt h1
              rw [List.length_append, List.length_singleton] at this
              omega
            rw [hj2, List.getElem?_append_right (Nat.le_refl _), Nat.sub_self] at h1
            rw [hj2, lb, List.getElem?_append_right (Nat.le_refl _), Nat.sub_self] at h2
            cases h1
            cases h2
            refine .inr ?_
            rw [upd_ne nNB, hN, Mon.getD_of hl, List.map_map]
            rfl
    · subst eσ
      rw [lps, List.take_length] at lb pb
      refine ⟨_, rfl, B, _, rfl, .inl ⟨SqL.of hBn, fun N nN => ?_⟩⟩
      have u3 := same_upd (o := .tup (bs.map V.ref)) nN
      exact k N _ (sn.trans u3) ⟨bs, SqT.of upd_same, lb, fun j b l h1 h2 => (pb j b l h1 h2).elim (fun z => Lf.SqT.same (sn.trans u3) z) fun z => SqT.of (u3 _ _ z)⟩
end
end K67

set_option Elab.async false
set_option linter.all false
set_option maxRecDepth 100000
set_option maxHeartbeats 8000000
namespace K67
open PySem PySem.Spec PyProof.Rows L2 Lf
/-- a tuple of numbers as data -/
abbrev nd (l : List Nat) : PyData := .tuple (l.map fun i => .int (i : Nat))
theorem nd_all {K : PySem.W.Frag} {H : Hp} : ∀ {l : List Nat}, DpAll K H (l.map nv) (l.map fun i => PyData.int (i : Nat))
  | [] => .nil
  | i :: r => .cons (.int _) (nd_all (l := r))
theorem nd_shape (l : List Nat) : SeqAt.shaped (nd l) = true := by
  have all : ∀ l : List Nat, PyData.canLayAll0 (l.map fun i => PyData.int (i : Nat)) = true ∧ PyData.depthAll (l.map fun i => PyData.int (i : Nat)) = 0 := by
    intro l
    induction l with
    | nil => simp [PyData.canLayAll0, PyData.depthAll]
    | cons i r ih => simp [PyData.canLayAll0, PyData.depthAll, PyData.canLay0, PyData.depth, ih.1, ih.2]
  unfold SeqAt.shaped
  simp [PyData.canLay0, PyData.depth, (all l).1, (all l).2]
/-- tuples of the same numbers are not unlike -/
theorem nd_ne {K : PySem.W.Frag} {H : Hp} {a b : Addr} {l : List Nat} {Q : VK} (qa : SqT K H a (l.map nv)) (qb : SqT K H b (l.map nv)) (k : Q (.bl false) H) : rNeD K (.ref a) (.ref b) H Q := by
  refine ⟨_, _, .tup qa nd_all, .tup qb nd_all, nd_shape l, nd_shape l, ?_⟩
  rw [eqv_same (nd_shape l)]
  exact k
def spProds (K : PySem.W.Frag) : Sp := fun vs H Q _ => ∃ r q rows L, vs = [.ref r, .ref q] ∧ RowsT K H r rows ∧ RowsT K H q L ∧ L.length = rows.length ∧
  (∀ (i : Nat) row (c t : Nat) li, rows[i]? = some row → row[c]? = some t → L[i]? = some li → (∀ row' ∈ rows, c < row'.length) ∧ li.length ≤ 2000 ∧ (∀ x ∈ li, x < rows.length) ∧ t < rows.length ∧ L[t]? = some (li.map fun x => (rows.getD x []).getD c 0)) ∧ ∀ H', Same H H' → Q .non H'
abbrev teProd (K : PySem.W.Frag) : TE := tOp (rIxT K) (tOp (rIxT K) (tVar 0) (tVar 6)) (tVar 4)
section
variable {P : Program} {w : World} {K : PySem.W.Frag} {mg : Str → Option Value} {base : Heap}
theorem scProds : FnScope ["right", "left", "number", "row", "letter", "reached", "begun"] ["right", "left"] (defScope s_check_products) := ⟨rfl, rfl, rfl, by decide +kernel, rfl, by decide +kernel, by decide +kernel⟩
theorem ok_prods {f : Addr} {fd : FuncData} {q : Str} (F : FunD K "_check_products" q (defArgs s_check_products) (defBody s_check_products) (defScope s_check_products) [] [] f fd) (T : Txt P w K mg base) :
    FnOk P w K mg base CX0 1 f fd ["right", "left"] (spProds K) := by
  have zE : mg "enumerate" = none := T.fr 49 "enumerate" rfl
  have zt : mg "tuple" = none := T.fr 60 "tuple" rfl
  refine F.ok scProds (fun vs H Q E h => ?_) (fun cdv A outer s H vs Q E hr h => ?_)
  · obtain ⟨r, q, rows, L, rfl, _⟩ := h
    rfl
  · obtain ⟨r, q, rows, L, rfl, R, RL, eL, ok, k⟩ := h
    refine ⟨_, PSs.nox (pss_one (ps_for PassesOwn.never rfl (pi_enumA rfl zE (pv 0)) (pg_tup rfl (pgs_cons (pg_name (i := 2) scProds.nd rfl (.inl rfl)) (pgs_cons (pg_name (i := 3) scProds.nd rfl (.inl rfl)) pgs_nil)))
      (pss_one (ps_for PassesOwn.never rfl (pi_enumA rfl zE (pv 3)) (pg_tup rfl (pgs_cons (pg_name (i := 4) scProds.nd rfl (.inr rfl)) (pgs_cons (pg_name (i := 5) scProds.nd rfl (.inl rfl)) pgs_nil)))
        (pss_one (ps_if (pt_cmpR (op_neD hr.units) (pe_ix ix_tup (pv 1) (pv 5) (fun _ _ => rfl)) (pe_callTy call_tuple_of rfl zt PyProof.Rows.boot_tuple
          (pa_cons (pe_lc (own := [("begun", 6)]) (g := gName 6) (te := teProd K) (by rfl) scProds.nd (pi_tup (pe_ix ix_tup (pv 1) (pv 2) (fun _ _ => rfl))) (blkOk_by (own := [("begun", 6)]) (N := ["right", "left", "number", "row", "letter", "reached", "begun"]) (sc := defScope s_check_products) (by decide +kernel)) (fun _ _ _ _ _ => pg_name (i := 6) scProds.nd rfl (Or.inl rfl)) (fun _ _ _ _ _ => pts_nil)
            (fun _ _ _ _ _ => by exact pe_ix ix_tup (pe_ix ix_tup (pv 0) (pv 6) (fun _ _ => rfl)) (pv 4) (fun _ _ => rfl))) pa_nil)) (nomark _)) (pss_one ps_never) pss_nil)))))), ?_⟩
    obtain ⟨as, sr, la, srow⟩ := R.ex
    obtain ⟨bs, sq, lb, sl⟩ := RL.ex
    have ln : (as.map V.ref).length = rows.length := by rw [List.length_map, la]
    refine ⟨_, rfl, r, as.map V.ref, rfl, .inr ⟨sr, ?_⟩⟩
    have wk : Walk (Itet K r) (as.map V.ref).length (fun H2 => Same H H2) (fun i H v H' => ∃ T x, v = .ref T ∧ H T = none ∧ H' = L2.upd H T (.tup [.int (i : Nat), x]) ∧ (as.map V.ref)[i]? = some x) := (walk_enumT (xs := as.map V.ref)).mono (fun H s => Lf.SqT.same s sr) (fun i H x H' _ _ y => y)
    refine for_it wk (fun i σ H2 => ∃ v2 v3 v4 v5 : Option V, σ = [some (.ref r), some (.ref q), v2, v3, v4, v5, none] ∧ Same H H2) ⟨none, none, none, none, rfl, L2.Same.refl _⟩ (fun i σ H2 _ ⟨_, _, _, _, _, s⟩ => s) ?_ ?_
    · rintro i x σ H2 H3 hi ⟨v2, v3, v4, v5, rfl, s2⟩ ⟨T', y, rfl, nT, rfl, hy⟩
      obtain ⟨a, ha, rfl⟩ := map_get hy
      have hi2 : i < rows.length := by rw [← ln]; exact hi
      obtain ⟨row, hrow⟩ := lt_get hi2
      have sa := srow i a row ha hrow
      refine ⟨T', _, rfl, SqT.of upd_same, rfl, _, _, rfl, _, _, rfl, rfl, ?_⟩
      have s3 := s2.trans (same_upd (o := .tup [.int (i : Nat), .ref a]) nT)
      generalize L2.upd H2 T' (.tup [.int (i : Nat), .ref a]) = H3 at s3 ⊢
      refine ⟨_, rfl, a, row.map nv, rfl, .inr ⟨Lf.SqT.same s3 sa, ?_⟩⟩
      have wk2 : Walk (Itet K a) (row.map nv).length (fun H2 => Same H H2) (fun i H v H' => ∃ T x, v = .ref T ∧ H T = none ∧ H' = L2.upd H T (.tup [.int (i : Nat), x]) ∧ (row.map nv)[i]? = some x) := (walk_enumT (xs := row.map nv)).mono (fun H s => Lf.SqT.same s sa) (fun i H x H' _ _ y => y)
      refine for_it wk2 (fun j σ H4 => ∃ v4 v5 : Option V, σ = [some (.ref r), some (.ref q), some (nv i), some (.ref a), v4, v5, none] ∧ Same H H4) ⟨_, _, rfl, s3⟩ (fun j σ H4 _ ⟨_, _, _, s⟩ => s) ?_ ?_
      · rintro c x σ H4 H5 hj ⟨v4, v5, rfl, s4⟩ ⟨T2, y, rfl, nT2, rfl, hy2⟩
        obtain ⟨t, ht, rfl⟩ := map_get hy2
        obtain ⟨li, hli⟩ := lt_get (show i < L.length by omega)
        obtain ⟨cw, l2, lx, tl, hlt⟩ := ok i row c t li hrow ht hli
        obtain ⟨bt, hbt⟩ := lt_get (show t < bs.length by omega)
        obtain ⟨bi, hbi⟩ := lt_get (show i < bs.length by omega)
        refine ⟨T2, _, rfl, SqT.of upd_same, rfl, _, _, rfl, _, _, rfl, rfl, ?_⟩
        have s5 := s4.trans (same_upd (o := .tup [.int (c : Nat), nv t]) nT2)
        generalize L2.upd H4 T2 (.tup [.int (c : Nat), nv t]) = H5 at s5 ⊢
        have sb := Lf.SqT.same s5 (sl i bi li hbi hli)
        refine ⟨_, rfl, _, rfl, q, bs.map V.ref, _, .ref bt, rfl, rfl, Lf.SqT.same s5 sq, atI_nat (get_map hbt), ?_⟩
        refine ⟨_, rfl, _, rfl, q, bs.map V.ref, _, .ref bi, rfl, rfl, Lf.SqT.same s5 sq, atI_nat (get_map hbi), bi, rfl, ⟨_, sb⟩, fun D nD => ?_⟩
        refine lc_tup (K := K) (a := bi) (xs := li.map nv) (fun j Hc => But D H5 Hc ∧ Hc D = some (.lst ((li.take j).map fun x => nv ((rows.getD x []).getD c 0)))) ⟨But.upd, upd_same⟩ (fun j Hc _ ⟨bc, _⟩ => Lf.SqT.same (Same.but (L2.Same.refl _) nD bc) sb) (fun j z Hc hz ⟨bc, hD⟩ => ?_) (fun Hc ⟨bc, hD⟩ => ?_)
        · obtain ⟨x, hxx, rfl⟩ := map_get hz
          refine ⟨rfl, yesT ?_⟩
          have sc := s5.trans (Same.but (L2.Same.refl _) nD bc)
          have xl := lx x (List.mem_of_getElem? hxx)
          obtain ⟨a', ha'⟩ := lt_get (show x < as.length by omega)
          obtain ⟨row', hrow'⟩ := lt_get xl
          obtain ⟨e, he⟩ := lt_get (cw row' (List.mem_of_getElem? hrow'))
          refine ⟨_, rfl, _, rfl, r, as.map V.ref, _, .ref a', rfl, rfl, Lf.SqT.same sc sr, atI_nat (get_map ha'), _, rfl, a', row'.map nv, _, nv e, rfl, rfl, Lf.SqT.same sc (srow x a' row' ha' hrow'), atI_nat (get_map he), ?_⟩
          refine ⟨_, hD, ?_, But.trans bc But.upd, ?_⟩
          · rw [List.length_map, List.length_take]
            have := get_lt hxx
            show min j li.length < 16777216
            omega
          · rw [upd_same, take_snoc hxx, List.map_append, List.map_cons, List.map_nil, Mon.getD_of hrow', Mon.getD_of he]
        · rw [List.length_map, List.take_length] at hD
          have sc := Same.but (L2.Same.refl _) nD bc
          refine ⟨D, _, rfl, .inl ⟨SqL.of hD, fun N nN => ?_⟩⟩
          have u6 := sc.trans (same_upd (o := .tup (li.map fun x => nv ((rows.getD x []).getD c 0))) nN)
          have s6 := s5.trans u6
          have e6 : (li.map fun x => nv ((rows.getD x []).getD c 0)) = (li.map fun x => (rows.getD x []).getD c 0).map nv := by rw [List.map_map]; rfl
          refine nd_ne (l := li.map fun x => (rows.getD x []).getD c 0) (Lf.SqT.same s6 (sl t bt _ hbt hlt)) (SqT.of (by rw [upd_same, e6])) ⟨_, rfl, ?_⟩
          exact ifF rfl ⟨_, _, rfl, s6⟩
      · rintro σ H4 ⟨v4, v5, rfl, s4⟩
        exact ⟨_, _, _, _, rfl, s4⟩
    · rintro σ H2 ⟨v2, v3, v4, v5, rfl, s2⟩
      exact k _ s2
end
end K67

set_option Elab.async false
set_option linter.all false
set_option maxRecDepth 100000
set_option maxHeartbeats 8000000
namespace K67
open PySem PySem.Spec PyProof.Rows L2 Lf
theorem SqT.but {K : PySem.W.Frag} {H H' : Hp} {p a C dx : Addr} {fs : List (Str × V)} {xs : List V} (hp : H p = some (.ins C dx fs)) (b : But p H H') (h : SqT K H a xs) : SqT K H' a xs := by
  rcases h with (h | ⟨o, h⟩) | h
  · exact .inl (.inl (b _ _ (fun z => by rw [z, hp] at h; cases h) h))
  · exact .inl (.inr ⟨o, b _ _ (fun z => by rw [z, hp] at h; cases h) h⟩)
  · exact .inr h
theorem RowsT.but {K : PySem.W.Frag} {H H' : Hp} {p r C dx : Addr} {fs : List (Str × V)} {rows : List (List Nat)} (hp : H p = some (.ins C dx fs)) (b : But p H H') (h : RowsT K H r rows) : RowsT K H' r rows := by
  obtain ⟨as, h1, h2, h3⟩ := h.ex
  exact ⟨as, SqT.but hp b h1, h2, fun i x row g1 g2 => SqT.but hp b (h3 i x row g1 g2)⟩
theorem MadeT.but {K : PySem.W.Frag} {H H' : Hp} {p r C dx : Addr} {fs : List (Str × V)} {m : List (Nat × Nat)} (hp : H p = some (.ins C dx fs)) (b : But p H H') (h : MadeT K H r m) : MadeT K H' r m := by
  obtain ⟨as, h1, h2, h3⟩ := h.ex
  exact ⟨as, SqT.but hp b h1, h2, fun i x row g1 g2 => SqT.but hp b (h3 i x row g1 g2)⟩
/-- a table that the constructor takes -/
structure Accept (rows : List (List Nat)) (wd : Nat) (m : List (Nat × Nat)) : Prop where
  form : Form rows wd
  made : Mon.madeTab 0 rows [] = some m
  len : m.length + 1 = rows.length
  left : ∀ (i k : Nat) l, (Mon.leftTab rows (m.take i))[k]? = some l → l.length = wd ∧ ∀ x ∈ l, x < rows.length
  prod : ∀ (i : Nat) row (c t : Nat) li lt, rows[i]? = some row → row[c]? = some t → (Mon.leftTab rows m)[i]? = some li → (Mon.leftTab rows m)[t]? = some lt → lt = li.map fun x => (rows.getD x []).getD c 0
theorem accept_of {n : Nat} {gens found rows : List (List Nat)} {m : List (Nat × Nat)} (T : Mon.Tab n gens found rows) (g1 : gens ≠ []) (g6 : gens.length ≤ 6) (f2 : found.length ≤ 2000) (hm : Mon.madeTab 0 rows [] = some m) (lm : m.length + 1 = rows.length) : Accept rows gens.length m := by
  have mk : ∀ (i k : Nat) p, (m.take i)[k]? = some p → p.1 < k + 1 ∧ ∃ row, rows[p.1]? = some row ∧ row[p.2]? = some (k + 1) := fun i k p h => by
    rw [List.getElem?_take] at h
    split at h
    · exact Mon.madeTab_lt hm h
    · cases h
  have lo : ∀ (i k : Nat) l, (Mon.leftTab rows (m.take i))[k]? = some l → Mon.LeftOk gens found k l := fun i => Mon.left_ok T g1 (m.take i) (mk i)
  have lm' : ∀ (k : Nat) l, (Mon.leftTab rows m)[k]? = some l → Mon.LeftOk gens found k l := fun k l h => lo m.length k l (by rw [List.take_length]; exact h)
  refine ⟨⟨?_, ?_, List.length_pos_iff.mpr g1, g6, fun row hr => ?_⟩, hm, lm, fun i k l h => ?_, fun i row c t li lt h1 h2 h3 h4 => Mon.prod_ok T g1 lm' h1 h2 h3 h4⟩
  · omega
  · rw [T.len]; exact f2
  · obtain ⟨i, hi⟩ := List.getElem?_of_mem hr
    refine ⟨T.wid i row hi, fun t ht => ?_⟩
    obtain ⟨c, hc⟩ := List.getElem?_of_mem ht
    obtain ⟨x, g, _, _, h3⟩ := T.ent i row hi c t hc
    rw [T.len]
    exact (List.getElem?_eq_some_iff.mp h3).1
  · obtain ⟨a, b⟩ := lo i k l h
    refine ⟨a, fun x hx => ?_⟩
    obtain ⟨c, hc⟩ := List.getElem?_of_mem hx
    obtain ⟨_, _, _, _, h3⟩ := b c x hc
    rw [T.len]
    exact (List.getElem?_eq_some_iff.mp h3).1
/-- a Monoid -/
structure Mo (K : PySem.W.Frag) (H : Hp) (x : Addr) (rows : List (List Nat)) (m : List (Nat × Nat)) : Prop where
  ex : ∃ dx t u v, H x = some (.ins (He.ga K "Monoid") dx [("right", .ref t), ("_made", .ref u), ("_left", .ref v)]) ∧ RowsT K H t rows ∧ MadeT K H u m ∧ RowsT K H v (Mon.leftTab rows m)
theorem Mo.same {K : PySem.W.Frag} {H H' : Hp} {x : Addr} {rows : List (List Nat)} {m : List (Nat × Nat)} (h : Mo K H x rows m) (e : Same H H') : Mo K H' x rows m := by
  obtain ⟨dx, t, u, v, a, b, c, d⟩ := h.ex
  exact ⟨dx, t, u, v, e _ _ a, b.same e, c.same e, d.same e⟩
def spMon (K : PySem.W.Frag) : Sp := fun vs H Q _ => ∃ p r dx rows wd m, vs = [.ref p, .ref r] ∧ H p = some (.ins (He.ga K "Monoid") dx []) ∧ RowsL K H r rows ∧ Accept rows wd m ∧ ∀ H', But p H H' → Mo K H' p rows m → Q .non H'
abbrev rTup (K : PySem.W.Frag) : List V → Hp → VK → Prop := fun xs H Q => ∃ p ys, xs = [V.ref p] ∧ ((SqL K H p ys ∧ ∀ (l : Addr), H l = none → Q (V.ref l) (L2.upd H l (HO.tup ys))) ∨ SqT K H p ys ∧ Q (V.ref p) H)
section
variable {P : Program} {w : World} {K : PySem.W.Frag} {mg : Str → Option Value} {base : Heap}
theorem scMon : FnScope ["self", "right", "row"] ["self", "right"] (defScope s_Monoid_init) := ⟨rfl, rfl, rfl, by decide +kernel, rfl, by decide +kernel, by decide +kernel⟩
theorem ok_mon {f : Addr} {fd : FuncData} {q : Str} (F : FunD K "__init__" q (defArgs s_Monoid_init) (defBody s_Monoid_init) (defScope s_Monoid_init) [] [] f fd) (T : Txt P w K mg base)
    (DF : Def P w K mg base CX0 3 "_check_form" ["right"] (spForm K)) (DM : Def P w K mg base CX0 1 "_made_by" ["right"] (spMade K)) (DL : Def P w K mg base CX0 1 "_left_table" ["right", "made"] (spLeft K)) (DP : Def P w K mg base CX0 1 "_check_products" ["right", "left"] (spProds K)) :
    FnOk P w K mg base CX0 4 f fd ["self", "right"] (spMon K) := by
  have zt : mg "tuple" = none := T.fr 60 "tuple" rfl
  have cl : L2.Cls K (He.ga K "Monoid") := He.cls_ok (T.d.fact 61 (f := .cls "Monoid") rfl)
  have n1 : NoAttr K (He.ga K "Monoid") "right" := He.noat_ok (T.d.fact 69 (f := .noat "Monoid" "right") rfl)
  have n2 : NoAttr K (He.ga K "Monoid") "_made" := He.noat_ok (T.d.fact 70 (f := .noat "Monoid" "_made") rfl)
  have n3 : NoAttr K (He.ga K "Monoid") "_left" := He.noat_ok (T.d.fact 71 (f := .noat "Monoid" "_left") rfl)
  refine F.ok scMon (fun vs H Q E h => ?_) (fun cdv A outer s H vs Q E hr h => ?_)
  · obtain ⟨p, r, dx, rows, wd, m, rfl, _⟩ := h
    rfl
  · obtain ⟨p, r, dx, rows, wd, m, rfl, hp, R, AC, k⟩ := h
    have r1 : Room 1 _ := hr.mono (by decide)
    refine ⟨_, PSs.nox (pss_cons (ps_expr (pe_def DF hr pass0 rfl (pa_cons (pv 1) pa_nil)))
      (pss_cons (ps_fld (pv 0) (pe_callTy call_tuple_of rfl zt PyProof.Rows.boot_tuple (pa_cons (pe_lc (own := [("row", 2)]) (g := gName 2) (te := tCB (rTup K) (tCons (tVar 2) tNil)) (by rfl) scMon.nd (pi_list (pv 1)) (blkOk_by (own := [("row", 2)]) (N := ["self", "right", "row"]) (sc := defScope s_Monoid_init) (by decide +kernel)) (fun _ _ _ _ _ => pg_name (i := 2) scMon.nd rfl (Or.inl rfl)) (fun _ _ _ _ _ => pts_nil)
        (fun _ _ _ _ _ => by exact pe_callTy call_tuple_of rfl zt PyProof.Rows.boot_tuple (pa_cons (pv 2) pa_nil))) pa_nil)) rfl)
      (pss_cons (ps_fld (pv 0) (pe_def DM r1 pass0 rfl (pa_cons (pe_fld (pv 0) rfl) pa_nil)) rfl)
      (pss_cons (ps_fld (pv 0) (pe_def DL r1 pass0 rfl (pa_cons (pe_fld (pv 0) rfl) (pa_cons (pe_fld (pv 0) rfl) pa_nil))) rfl)
      (pss_one (ps_expr (pe_def DP r1 pass0 rfl (pa_cons (pe_fld (pv 0) rfl) (pa_cons (pe_fld (pv 0) rfl) pa_nil))))))))), ?_⟩
    obtain ⟨f1, f2, w1, w6, frow⟩ := AC.form
    refine ⟨_, rfl, r, rows, wd, rfl, R, AC.form, fun H1 s1 => ?_⟩
    obtain ⟨as, sr, la, srow⟩ := (R.same s1).ex
    have hp1 := s1 _ _ hp
    have ln : (as.map V.ref).length = rows.length := by rw [List.length_map, la]
    refine ⟨_, rfl, r, rfl, ⟨_, sr⟩, fun D nD => ?_⟩
    refine lc_list (K := K) (a := r) (xs := as.map V.ref) (fun i Hc => But D H1 Hc ∧ ∃ us : List Addr, us.length = i ∧ Hc D = some (.lst (us.map V.ref)) ∧ ∀ (j : Nat) u row, us[j]? = some u → rows[j]? = some row → Hc u = some (.tup (row.map nv))) ⟨But.upd, [], rfl, upd_same, fun j u row h => by simp at h⟩ (fun i Hc _ ⟨bc, _⟩ => L2.Same.seq (Same.but (L2.Same.refl _) nD bc) sr) (fun i z Hc hz ⟨bc, us, lu, hD, pu⟩ => ?_) (fun Hc ⟨bc, us, lu, hD, pu⟩ => ?_)
    · obtain ⟨a, ha, rfl⟩ := map_get hz
      obtain ⟨row, hrow⟩ := lt_get (show i < rows.length by have := get_lt ha; omega)
      have sc := Same.but (L2.Same.refl _) nD bc
      refine ⟨rfl, yesT ?_⟩
      refine ⟨_, rfl, a, row.map nv, rfl, .inl ⟨L2.Same.seq sc (srow i a row ha hrow), fun u nu => ?_⟩⟩
      have u2 := same_upd (o := .tup (row.map nv)) nu
      have hu : L2.upd Hc u (.tup (row.map nv)) u = some (.tup (row.map nv)) := upd_same
      generalize L2.upd Hc u (.tup (row.map nv)) = H2 at u2 hu ⊢
      have hD2 := u2 _ _ hD
      have nuD : u ≠ D := fun z => by rw [z, hD2] at hu; cases hu
      refine ⟨_, hD2, by rw [List.length_map, lu]; have := get_lt hrow; show i < 16777216; omega, But.trans (bc.trans (But.of u2)) But.upd, us ++ [u], by simp [lu], by rw [upd_same]; simp, fun j v rw' h1 h2 => ?_⟩
      by_cases hj : j < us.length
      · rw [List.getElem?_append_left hj] at h1
        have z := u2 _ _ (pu j v rw' h1 h2)
        rw [upd_ne (fun y => by rw [y, hD2] at z; cases z)]
        exact z
      · have hj2 : j = us.length := by
          have := get_lt h1
          rw [List.length_append, List.length_singleton] at this
          omega
        rw [hj2, List.getElem?_append_right (Nat.le_refl _), Nat.sub_self] at h1
        cases h1
        rw [hj2, lu, hrow] at h2
        cases h2
        rw [upd_ne nuD]
        exact hu
    · have sc := Same.but (L2.Same.refl _) nD bc
      refine ⟨D, _, rfl, .inl ⟨SqL.of hD, fun t nt => ?_⟩⟩
      have u2 := same_upd (o := .tup (us.map V.ref)) nt
      have s2 := sc.trans u2
      have Rt : RowsT K (L2.upd Hc t (.tup (us.map V.ref))) t rows := ⟨us, SqT.of upd_same, by rw [lu, ln], fun j u row h1 h2 => SqT.of (u2 _ _ (pu j u row h1 h2))⟩
      generalize L2.upd Hc t (.tup (us.map V.ref)) = H2 at s2 Rt ⊢
      have hp2 := s2 _ _ hp1
      have b0 : But p H H2 := But.of (s1.trans s2)
      clear u2 pu hD bc sc
      refine ⟨_, rfl, p, _, dx, [], rfl, hp2, cl, n1, (by show 0 < 1000; decide), ?_⟩
      have Rt3 : RowsT K (L2.upd H2 p (.ins (He.ga K "Monoid") dx [("right", V.ref t)])) t rows := RowsT.but hp2 But.upd Rt
      have b3 : But p H (L2.upd H2 p (.ins (He.ga K "Monoid") dx [("right", V.ref t)])) := b0.trans But.upd
      have hp3 : L2.upd H2 p (.ins (He.ga K "Monoid") dx [("right", V.ref t)]) p = some (.ins (He.ga K "Monoid") dx [("right", V.ref t)]) := upd_same
      show tSeq _ _ _ _ (L2.upd H2 p (.ins (He.ga K "Monoid") dx [("right", V.ref t)]))
      generalize L2.upd H2 p (.ins (He.ga K "Monoid") dx [("right", V.ref t)]) = H3 at Rt3 b3 hp3 ⊢
      clear Rt b0 hp2 s2 nt hp1 sr srow s1 R
      refine ⟨_, rfl, p, _, dx, _, _, rfl, hp3, cl, n1, rfl, t, rows, m, rfl, Rt3, AC.made, by have := AC.len; omega, fun u H4 s4 Mu => ?_⟩
      have hp4 := s4 _ _ hp3
      refine ⟨_, rfl, p, _, dx, _, rfl, hp4, cl, n2, (by show 1 < 1000; decide), ?_⟩
      have b4 : But p H (L2.upd H4 p (.ins (He.ga K "Monoid") dx [("right", V.ref t), ("_made", V.ref u)])) := (b3.trans (But.of s4)).trans But.upd
      have Rt5 : RowsT K (L2.upd H4 p (.ins (He.ga K "Monoid") dx [("right", V.ref t), ("_made", V.ref u)])) t rows := RowsT.but hp4 But.upd (Rt3.same s4)
      have Mu5 : MadeT K (L2.upd H4 p (.ins (He.ga K "Monoid") dx [("right", V.ref t), ("_made", V.ref u)])) u m := MadeT.but hp4 But.upd Mu
      have hp5 : L2.upd H4 p (.ins (He.ga K "Monoid") dx [("right", V.ref t), ("_made", V.ref u)]) p = some (.ins (He.ga K "Monoid") dx [("right", V.ref t), ("_made", V.ref u)]) := upd_same
      show tSeq _ _ _ _ (L2.upd H4 p (.ins (He.ga K "Monoid") dx [("right", V.ref t), ("_made", V.ref u)]))
      generalize L2.upd H4 p (.ins (He.ga K "Monoid") dx [("right", V.ref t), ("_made", V.ref u)]) = H5 at Rt5 Mu5 b4 hp5 ⊢
      clear Rt3 Mu s4 hp4 b3 hp3
      refine ⟨_, rfl, p, _, dx, _, _, rfl, hp5, cl, n1, rfl, _, rfl, p, _, dx, _, _, rfl, hp5, cl, n2, rfl, t, u, rows, m, rfl, Rt5, Mu5, List.ne_nil_of_length_pos (by omega), by have := AC.len; omega, fun k p hp => ?_, fun i k l h => ?_, fun v H6 s6 Lv => ?_⟩
      · obtain ⟨a, row, b, c⟩ := Mon.madeTab_lt AC.made hp
        refine ⟨a, fun row' h => ?_⟩
        have := get_lt c
        rw [(frow row (List.mem_of_getElem? b)).1] at this
        rw [(frow row' h).1]
        exact this
      · obtain ⟨a, b⟩ := AC.left i k l h
        exact ⟨by omega, b⟩
      have hp6 := s6 _ _ hp5
      refine ⟨_, rfl, p, _, dx, _, rfl, hp6, cl, n3, (by show 2 < 1000; decide), ?_⟩
      have b6 : But p H (L2.upd H6 p (.ins (He.ga K "Monoid") dx [("right", V.ref t), ("_made", V.ref u), ("_left", V.ref v)])) := (b4.trans (But.of s6)).trans But.upd
      have Rt7 : RowsT K (L2.upd H6 p (.ins (He.ga K "Monoid") dx [("right", V.ref t), ("_made", V.ref u), ("_left", V.ref v)])) t rows := RowsT.but hp6 But.upd (Rt5.same s6)
      have Mu7 : MadeT K (L2.upd H6 p (.ins (He.ga K "Monoid") dx [("right", V.ref t), ("_made", V.ref u), ("_left", V.ref v)])) u m := MadeT.but hp6 But.upd (Mu5.same s6)
      have Lv7 : RowsT K (L2.upd H6 p (.ins (He.ga K "Monoid") dx [("right", V.ref t), ("_made", V.ref u), ("_left", V.ref v)])) v (Mon.leftTab rows m) := RowsT.but hp6 But.upd Lv
      have hp7 : L2.upd H6 p (.ins (He.ga K "Monoid") dx [("right", V.ref t), ("_made", V.ref u), ("_left", V.ref v)]) p = some (.ins (He.ga K "Monoid") dx [("right", V.ref t), ("_made", V.ref u), ("_left", V.ref v)]) := upd_same
      show Ends.nx _ _ (L2.upd H6 p (.ins (He.ga K "Monoid") dx [("right", V.ref t), ("_made", V.ref u), ("_left", V.ref v)]))
      generalize L2.upd H6 p (.ins (He.ga K "Monoid") dx [("right", V.ref t), ("_made", V.ref u), ("_left", V.ref v)]) = H7 at Rt7 Mu7 Lv7 b6 hp7 ⊢
      have lL : (Mon.leftTab rows m).length = rows.length := by rw [Mon.left_len, AC.len]
      have left' : ∀ (k : Nat) l, (Mon.leftTab rows m)[k]? = some l → l.length = wd ∧ ∀ x ∈ l, x < rows.length := fun k l h => AC.left m.length k l (by rw [List.take_length]; exact h)
      refine ⟨_, rfl, p, _, dx, _, _, rfl, hp7, cl, n1, rfl, _, rfl, p, _, dx, _, _, rfl, hp7, cl, n3, rfl, t, v, rows, Mon.leftTab rows m, rfl, Rt7, Lv7, lL, fun i row c x li h1 h2 h3 => ?_, fun H8 s8 => ?_⟩
      · obtain ⟨fr, fx⟩ := frow row (List.mem_of_getElem? h1)
        obtain ⟨la', lb'⟩ := left' i li h3
        have hx := fx x (List.mem_of_getElem? h2)
        obtain ⟨lt, hlt⟩ := lt_get (show x < (Mon.leftTab rows m).length by omega)
        refine ⟨fun row' h => ?_, by omega, lb', hx, ?_⟩
        · have := get_lt h2
          rw [(frow row' h).1]
          omega
        · rw [hlt, AC.prod i row c x li lt h1 h2 h3 hlt]
      · exact k H8 (b6.trans (But.of s8)) ⟨dx, t, u, v, s8 _ _ hp7, Rt7.same s8, Mu7.same s8, Lv7.same s8⟩
end
end K67

set_option Elab.async false
set_option linter.all false
set_option maxRecDepth 100000
set_option maxHeartbeats 8000000
namespace K67
open PySem PySem.Spec PyProof.Rows L2 Lf
/-- a list of maps, as tuples -/
structure Maps (H : Hp) (p : Addr) (gens : List (List Nat)) : Prop where
  ex : ∃ as : List Addr, H p = some (.lst (as.map V.ref)) ∧ as.length = gens.length ∧ ∀ (i : Nat) a row, as[i]? = some a → gens[i]? = some row → H a = some (.tup (row.map nv))
theorem Maps.same {H H' : Hp} {p : Addr} {gens : List (List Nat)} (h : Maps H p gens) (e : Same H H') : Maps H' p gens := by
  obtain ⟨as, a, b, c⟩ := h.ex
  exact ⟨as, e _ _ a, b, fun i x row h1 h2 => e _ _ (c i x row h1 h2)⟩
theorem Maps.but {H H' : Hp} {l p : Addr} {a b c : Int} {gens : List (List Nat)} (hl : H l = some (.lst [.int a, .int b, .int c])) (h : Maps H p gens) (e : But l H H') : Maps H' p gens := by
  obtain ⟨as, h1, h2, h3⟩ := h.ex
  refine ⟨as, e _ _ (fun z => ?_) h1, h2, fun i x row g1 g2 => e _ _ (fun z => ?_) (h3 i x row g1 g2)⟩
  · rw [z, hl] at h1
    cases as with
    | nil => simp at h1
    | cons u r => simp at h1
  · have := h3 i x row g1 g2
    rw [z, hl] at this
    simp at this
theorem Src.un {H : Hp} {l : Addr} {n : Nat} (h : Src H l n) : ∃ a b c : Int, H l = some (.lst [.int a, .int b, .int c]) := by
  obtain ⟨a, b, c, e, _⟩ := h
  exact ⟨a, b, c, e⟩
theorem Src.ne {H : Hp} {l x : Addr} {n : Nat} (h : Src H l n) (nx : H x = none) : x ≠ l := fun z => by
  obtain ⟨a, b, c, e⟩ := h.un
  rw [← z, nx] at e
  cases e
theorem Src.upd {H : Hp} {l x : Addr} {n : Nat} {o : HO} (h : Src H l n) (nx : x ≠ l) : Src (L2.upd H x o) l n := by
  obtain ⟨a, b, c, e, r⟩ := h
  exact ⟨a, b, c, by rw [upd_ne nx.symm]; exact e, r⟩
end K67

set_option Elab.async false
set_option linter.all false
set_option maxRecDepth 100000
set_option maxHeartbeats 4000000
/-! Products of maps, found one by one: pure. -/
namespace Lf
open PySem PySem.Spec PyProof.Rows L2
/-- numbers as the key of a dict -/
def kt (x : List Nat) : List Key := x.map fun i => (Sum.inl ((i : Nat) : Int) : Key)
theorem kt_map {x : List Nat} : (kt x).map kV = x.map fun i => V.int (i : Nat) := by
  unfold kt
  rw [List.map_map]
  rfl
theorem kt_inj : ∀ {x y : List Nat}, kt x = kt y → x = y
  | [], [], _ => rfl
  | [], _ :: _, h => by simp [kt] at h
  | _ :: _, [], h => by simp [kt] at h
  | a :: r, b :: s, h => by
    unfold kt at h
    rw [List.map_cons, List.map_cons] at h
    injection h with h1 h2
    have e : ((a : Int)) = (b : Int) := Sum.inl.inj h1
    rw [show a = b by omega, kt_inj (x := r) (y := s) h2]
/-- a dict of numbers by their place -/
def dtabF : Nat → List (List Nat) → List (List Key × V)
  | _, [] => []
  | k, x :: r => (kt x, .int (k : Nat)) :: dtabF (k + 1) r
abbrev dtab (f : List (List Nat)) : List (List Key × V) := dtabF 0 f
theorem dtabF_len : ∀ {f : List (List Nat)} {k : Nat}, (dtabF k f).length = f.length
  | [], _ => rfl
  | x :: r, k => by rw [dtabF, List.length_cons, dtabF_len, List.length_cons]
theorem dtabF_snoc {x : List Nat} : ∀ {f : List (List Nat)} {k : Nat}, dtabF k (f ++ [x]) = dtabF k f ++ [(kt x, .int (k + f.length : Nat))]
  | [], k => rfl
  | y :: r, k => by
    rw [List.cons_append, dtabF, dtabF, dtabF_snoc, List.cons_append, List.length_cons, show k + 1 + r.length = k + (r.length + 1) by omega]
theorem dtabF_none {x : List Nat} : ∀ {f : List (List Nat)} {k : Nat}, x ∉ f → valV (dtabF k f) (kt x) = none
  | [], _, _ => rfl
  | y :: r, k, h => by
    have hy : ¬ kt y = kt x := fun z => h (by rw [kt_inj z]; exact List.mem_cons_self)
    rw [dtabF, valV_neg (p := (kt y, V.int (k : Nat))) hy]
    exact dtabF_none fun z => h (List.mem_cons_of_mem _ z)
theorem dtabF_some {x : List Nat} : ∀ {f : List (List Nat)} {k i : Nat}, f.Nodup → f[i]? = some x → valV (dtabF k f) (kt x) = some (.int (k + i : Nat))
  | [], _, _, _, h => by simp at h
  | y :: r, k, 0, _, h => by
    cases h
    rw [dtabF, valV_pos (p := (kt x, V.int (k : Nat))) rfl]
    rfl
  | y :: r, k, i + 1, nd, h => by
    have hm : r[i]? = some x := h
    obtain ⟨h1, h2⟩ := List.nodup_cons.mp nd
    have hy : ¬ kt y = kt x := fun z => h1 (by rw [kt_inj z]; exact List.mem_of_getElem? hm)
    rw [dtabF, valV_neg (p := (kt y, V.int (k : Nat))) hy, dtabF_some h2 hm, show k + 1 + i = k + (i + 1) by omega]
theorem dtab_put {x : List Nat} {f : List (List Nat)} (h : x ∉ f) : putK (dtab f) (kt x) (.int (f.length : Nat)) = dtab (f ++ [x]) := by
  rw [putK_new _ (dtabF_none h), dtab, dtabF_snoc, Nat.zero_add]
end Lf
namespace Mon
/-- the words of what was met -/
def wordStep (L : List (List Nat)) (p : Nat × Nat) : List (List Nat) := L ++ [L.getD p.1 [] ++ [p.2]]
def wordTab (m : List (Nat × Nat)) : List (List Nat) := m.foldl wordStep [[]]
theorem word_snoc {m : List (Nat × Nat)} {p : Nat × Nat} : wordTab (m ++ [p]) = wordStep (wordTab m) p := by
  unfold wordTab
  rw [List.foldl_append]
  rfl
theorem word_len : ∀ {m : List (Nat × Nat)}, (wordTab m).length = m.length + 1 := by
  intro m
  unfold wordTab
  suffices h : ∀ (m : List (Nat × Nat)) (L : List (List Nat)), (m.foldl wordStep L).length = L.length + m.length by
    rw [h]
    show 1 + m.length = _
    omega
  intro m
  induction m with
  | nil => intro L; rfl
  | cons p r ih =>
    intro L
    rw [List.foldl_cons, ih, wordStep, List.length_append, List.length_cons, List.length_cons, List.length_nil]
    omega
/-- the search at letter c of row i -/
structure Bfs (n : Nat) (gens : List (List Nat)) (i c : Nat) (found rows : List (List Nat)) (row : List Nat) (m : List (Nat × Nat)) : Prop where
  nd : found.Nodup
  val : ∀ x ∈ found, Valid n x
  gval : ∀ g ∈ gens, Valid n g
  head : found[0]? = some (idm n)
  len : rows.length = i
  wid : ∀ (j : Nat) r, rows[j]? = some r → r.length = gens.length
  ent : ∀ (j : Nat) r, rows[j]? = some r → ∀ (k t : Nat), r[k]? = some t → ∃ x g, found[j]? = some x ∧ gens[k]? = some g ∧ found[t]? = some (comp x g)
  rlen : row.length = c
  rent : ∀ (k t : Nat), row[k]? = some t → ∃ x g, found[i]? = some x ∧ gens[k]? = some g ∧ found[t]? = some (comp x g)
  made : ∃ m0, madeTab 0 rows [] = some m0 ∧ (c ≠ 0 → i < m0.length + 1) ∧ madeRow i 0 row m0 = some m
  mlen : m.length + 1 = found.length
  le : i ≤ found.length
theorem Bfs.few {n : Nat} {gens found rows : List (List Nat)} {i c : Nat} {row : List Nat} {m : List (Nat × Nat)} (B : Bfs n gens i c found rows row m) : found.length ≤ n ^ n := maps_few B.nd B.val
theorem Bfs.start {n : Nat} {gens : List (List Nat)} (gv : ∀ g ∈ gens, Valid n g) : Bfs n gens 0 0 [idm n] [] [] [] where
  nd := by simp
  val := fun x hx => by rw [List.mem_singleton.mp hx]; exact idm_valid
  gval := gv
  head := rfl
  len := rfl
  wid := fun j r h => by simp at h
  ent := fun j r h => by simp at h
  rlen := rfl
  rent := fun k t h => by simp at h
  made := ⟨[], rfl, fun z => (z rfl).elim, rfl⟩
  mlen := rfl
  le := Nat.zero_le _
theorem get_app {α : Type} {l : List α} {i : Nat} {x : α} (y : α) (h : l[i]? = some x) : (l ++ [y])[i]? = some x := by
  rw [List.getElem?_append_left (List.getElem?_eq_some_iff.mp h).1]
  exact h
theorem snoc_cases {α : Type} {l : List α} {j : Nat} {x y : α} (h : (l ++ [y])[j]? = some x) : l[j]? = some x ∨ j = l.length ∧ x = y := by
  by_cases hj : j < l.length
  · rw [List.getElem?_append_left hj] at h
    exact .inl h
  · have := (List.getElem?_eq_some_iff.mp h).1
    rw [List.length_append, List.length_singleton] at this
    have e : j = l.length := by omega
    subst e
    rw [List.getElem?_append_right (Nat.le_refl _), Nat.sub_self] at h
    exact .inr ⟨rfl, (Option.some.inj h).symm⟩
section
variable {n : Nat} {gens found rows : List (List Nat)} {i c : Nat} {row : List Nat} {m : List (Nat × Nat)}
/-- a product that was met before -/
theorem Bfs.old (B : Bfs n gens i c found rows row m) {x g : List Nat} {t : Nat} (hx : found[i]? = some x) (hg : gens[c]? = some g) (ht : found[t]? = some (comp x g)) : Bfs n gens i (c + 1) found rows (row ++ [t]) m := by
  obtain ⟨m0, a1, a2, a3⟩ := B.made
  have tl := (List.getElem?_eq_some_iff.mp ht).1
  have il := (List.getElem?_eq_some_iff.mp hx).1
  have ml := B.mlen
  refine { B with rlen := by rw [List.length_append, B.rlen]; rfl, rent := fun k u h => ?_, made := ⟨m0, a1, fun _ => ?_, ?_⟩ }
  · rcases snoc_cases h with h | ⟨rfl, rfl⟩
    · exact B.rent k u h
    · exact ⟨x, g, hx, by rw [B.rlen]; exact hg, ht⟩
  · by_cases hc : c = 0
    · subst hc
      have : row = [] := List.length_eq_zero_iff.mp B.rlen
      subst this
      have e : m0 = m := Option.some.inj a3
      subst e
      omega
    · exact a2 hc
  · rw [madeRow_snoc, a3, Option.bind_some, if_neg (by omega), if_neg (by omega)]
/-- a new one -/
theorem Bfs.new (B : Bfs n gens i c found rows row m) {x g : List Nat} (hx : found[i]? = some x) (hg : gens[c]? = some g) (hn : comp x g ∉ found) : Bfs n gens i (c + 1) (found ++ [comp x g]) rows (row ++ [found.length]) (m ++ [(i, c)]) := by
  obtain ⟨m0, a1, a2, a3⟩ := B.made
  have il := (List.getElem?_eq_some_iff.mp hx).1
  have ml := B.mlen
  refine ⟨?_, fun z hz => ?_, B.gval, get_app _ B.head, B.len, B.wid, fun j r hr k t ht => ?_, by rw [List.length_append, B.rlen]; rfl, fun k t h => ?_, ⟨m0, a1, fun _ => ?_, ?_⟩, by simp [ml], by rw [List.length_append]; omega⟩
  · rw [List.nodup_append]
    refine ⟨B.nd, by simp, fun a ha b hb e => ?_⟩
    rw [e, List.mem_singleton.mp hb] at ha
    exact hn ha
  · rcases List.mem_append.mp hz with h | h
    · exact B.val z h
    · rw [List.mem_singleton.mp h]
      exact comp_valid (B.val x (List.mem_of_getElem? hx)) (B.gval g (List.mem_of_getElem? hg))
  · obtain ⟨u, v, h1, h2, h3⟩ := B.ent j r hr k t ht
    exact ⟨u, v, get_app _ h1, h2, get_app _ h3⟩
  · rcases snoc_cases h with h | ⟨rfl, rfl⟩
    · obtain ⟨u, v, h1, h2, h3⟩ := B.rent k t h
      exact ⟨u, v, get_app _ h1, h2, get_app _ h3⟩
    · refine ⟨x, g, get_app _ hx, by rw [B.rlen]; exact hg, ?_⟩
      rw [List.getElem?_append_right (Nat.le_refl _), Nat.sub_self]
      rfl
  · by_cases hc : c = 0
    · subst hc
      have : row = [] := List.length_eq_zero_iff.mp B.rlen
      subst this
      have e : m0 = m := Option.some.inj a3
      subst e
      omega
    · exact a2 hc
  · rw [madeRow_snoc, a3, Option.bind_some, if_neg (by omega), if_pos ml.symm, Nat.zero_add, B.rlen]
/-- the end of a row -/
theorem Bfs.next (B : Bfs n gens i c found rows row m) (hc : c = gens.length) (c0 : c ≠ 0) {x : List Nat} (hx : found[i]? = some x) : Bfs n gens (i + 1) 0 found (rows ++ [row]) [] m := by
  obtain ⟨m0, a1, a2, a3⟩ := B.made
  have il := (List.getElem?_eq_some_iff.mp hx).1
  refine ⟨B.nd, B.val, B.gval, B.head, by rw [List.length_append, B.len]; rfl, fun j r h => ?_, fun j r h k t ht => ?_, rfl, fun k t h => by simp at h, ⟨m, ?_, fun z => (z rfl).elim, rfl⟩, B.mlen, il⟩
  · rcases snoc_cases h with h | ⟨rfl, rfl⟩
    · exact B.wid j r h
    · rw [B.rlen, hc]
  · rcases snoc_cases h with h | ⟨rfl, rfl⟩
    · exact B.ent j r h k t ht
    · rw [B.len]
      exact B.rent k t ht
  · rw [madeTab_snoc, a1, Option.bind_some, Nat.zero_add, B.len, if_neg (by have := a2 c0; omega)]
    exact a3
/-- the end of the search -/
theorem Bfs.tab (B : Bfs n gens i 0 found rows [] m) (h : found.length ≤ i) : Tab n gens found rows ∧ madeTab 0 rows [] = some m ∧ m.length + 1 = rows.length := by
  obtain ⟨m0, a1, a2, a3⟩ := B.made
  have e : m0 = m := Option.some.inj a3
  subst e
  have le := B.le
  have l := B.len
  have ml := B.mlen
  exact ⟨⟨B.nd, B.val, B.gval, B.head, by omega, B.wid, B.ent⟩, a1, by omega⟩
end
end Mon

set_option Elab.async false
set_option linter.all false
set_option maxRecDepth 100000
set_option maxHeartbeats 4000000
/-! {key: value} with a tuple key. -/
namespace Lf
open PySem PySem.Spec PyProof.Rows L2
/-- {k: v} -/
def tDispT1 (tk tv : TE) : TE := fun σ H Q => ∀ p, H p = none → tk σ (upd H p (.dT [])) fun x H1 => tv σ H1 fun y H2 => ∃ ks b H3, H2 p = some (.dT []) ∧ x = .ref b ∧ H2 b = some (.tup (ks.map kV)) ∧ H3 = upd H2 p (.dT [(ks, y)]) ∧ Q (.ref p) H3
theorem pe_dispT1 {X : Cx} {pos : Pos} {k v : Expr} {tk tv : TE} (hu : X.A.units + 1 < cLine) (hk : PE X k tk) (hv : PE X v tv) : PE X (.Dict [some k] [v] pos) (tDispT1 tk tv) := by
  refine ⟨fun pins s σ H Q I q => ?_⟩
  have hn := I.hok.fresh (Nat.le_refl s.heap.objs.size)
  have I1 := I.laid (a := s.heap.objs.size) (o := .dT []) (h' := s.heap.push { cls := .type "dict", data := .dict #[] }) (t' := s.toks) (fun _ _ q => Heap.get?_push_of_some _ q) (Nat.le_refl _) (dt_empty s.heap I.big)
  rw [arm_eval_Dict, zip_pairTrees [some k] [v] X.env pos rfl rfl, dictDisplay_pairs (pairTrees [some k] [v] X.env pos) (fun z => by cases z) (show 1 < 17 by decide)]
  refine wpAny_bind (wpAny_standAt (wpAny_bind ?_))
  unfold subDict
  refine wpAny_bind (wpAny_alloc ?_)
  refine wpAny_bind (wpAny_holding ?_)
  rw [if_pos (show (pairTrees [some k] [v] X.env pos).length ≤ 15 from (by show 1 ≤ 15; decide))]
  refine wpAny_bind (pairTrees_cons_walk (thn (hk.run pins _ σ _ _ I1 (q _ hn)) fun u s1 ⟨x, H1, I1, rx, q1⟩ => thn (hv.run pins s1 σ H1 _ I1 q1) fun r s2 ⟨y, H2, I2, ry, q2⟩ => pairTrees_nil_walk ?_))
  obtain ⟨ks, b, H3, e, ex, eb, e3, q3⟩ := q2
  subst ex e3
  cases (show u = Value.ref b from rx)
  obtain ⟨z, hd, xs, rel, dd⟩ := dt_of I2.hok e
  cases rel
  refine wpAny_holding ?_
  rw [List.forIn_cons]
  refine wpAny_bind (wpAny_bind (wpAny_bind (wpAny_dictSet_heap (hsz := by decide) (show (tupleKind (mixKind X.prog X.w)).room X.A from Nat.lt_of_succ_lt hu) (key_of I2.hok eb) dd fun h' dd' hs => wpAny_pure ?_)))
  dsimp only
  refine wpAny_pure (wpAny_pure (wpAny_pure (wpAny_pure ⟨.ref s.heap.objs.size, _, ?_, rfl, q3⟩)))
  obtain ⟨q, es, ep, hq, h2, h3, h4, _, h5⟩ := dd'
  refine d_write I2 (by rw [e]; exact True.intro) hs ⟨q, hq⟩ ⟨by show 1 ≤ sizeLine; decide, hd, _, ((show KT H2 [] [] from .nil).put ks eb ry).keeps fun c ys ec => ?_, q, es, ep, hq, h2, h3, h4, h5⟩
  rw [upd_ne (ne_of ec e (fun z => nomatch z))]
  exact ec
end Lf

set_option Elab.async false
set_option linter.all false
set_option maxRecDepth 100000
set_option maxHeartbeats 4000000
/-! zip(text, list), walked. -/
namespace Lf
open PySem PySem.Spec PyProof.Rows L2
/-- the cells of such a zip lie apart -/
structure Far (z TI TO i1 i2 b : Addr) : Prop where
  a1 : TI ≠ z
  a2 : TO ≠ z
  a3 : TI ≠ TO
  a4 : TI ≠ i1
  a5 : TI ≠ i2
  a6 : z ≠ i1
  a7 : z ≠ i2
  a8 : TO ≠ i1
  a9 : TO ≠ i2
  b1 : i1 ≠ i2
  c1 : z ≠ b
  c2 : TO ≠ b
  c3 : i1 ≠ b
  c4 : i2 ≠ b
theorem Far.sep {z TI TO i1 i2 b : Addr} (f : Far z TI TO i1 i2 b) : ZipSep2 z TI TO i1 i2 [i1] [i2, b] where
  TIz := f.a1
  TOz := f.a2
  TITO := f.a3
  TIi1 := f.a4
  mem1 := List.mem_cons_self
  zf1 := fun h => f.a6 (List.mem_singleton.mp h)
  Tf1 := fun h => f.a8 (List.mem_singleton.mp h)
  TIi2 := f.a5
  mem2 := List.mem_cons_self
  zf2 := fun h => by
    simp only [List.mem_cons, List.not_mem_nil, or_false] at h
    exact h.elim f.a7 f.c1
  Tf2 := fun h => by
    simp only [List.mem_cons, List.not_mem_nil, or_false] at h
    exact h.elim f.a9 f.c2
  sep1_2 := fun h => by
    simp only [List.mem_cons, List.not_mem_nil, or_false] at h
    exact h.elim f.b1 f.c3
  sep2_1 := fun h => f.b1 (List.mem_singleton.mp h).symm
/-- signs of a text and items of a list, in new pairs -/
def Itzs (K : PySem.W.Frag) (x : Str) (b : Addr) : It :=
  ⟨fun i H => ∃ (ys : List V) (c : Nat) (y : V), SqL K H b ys ∧ x.cps[i]? = some c ∧ ys[i]? = some y,
    fun i H v H' => ∃ (T : Addr) (c : Nat) (y : V), v = .ref T ∧ H T = none ∧ H' = L2.upd H T (.tup [.str ⟨#[c]⟩, y]) ∧ x.cps[i]? = some c ∧ ∀ ys, SqL K H b ys → ys[i]? = some y,
    fun i H => ∃ ys : List V, SqL K H b ys ∧ i ≤ x.cps.size ∧ i ≤ ys.length ∧ (i = x.cps.size ∨ i = ys.length)⟩
theorem turn_zips {P : Program} {w : World} {K : PySem.W.Frag} {elts : List Expr} {kk : Nat} {tpos : Pos} {z TI TO i1 i2 b : Addr} (x : Str) (t : Tok) (f : Far z TI TO i1 i2 b) :
    Turn P w K (.Tuple elts kk tpos) (Itzs K x b) [z, TI, TO, i1, i2] z (fun i h => IsZip h z TI TO .none ∧ IsTupOf2 h TI (.ref i1) (.ref i2) ∧ (∃ p q, IsTupOf2 h TO p q) ∧ h.IsStrIter i1 (strIterType x) x t i ∧ h.IsListIter i2 b i) where
  mem := List.mem_cons_self
  obj := fun i h st c hc => by
    obtain ⟨hz, hTI, ⟨p, q, hTO⟩, ⟨o1, e1, _, d1⟩, ⟨o2, e2, _, d2⟩⟩ := st
    simp only [List.mem_cons, List.not_mem_nil, or_false] at hc
    rcases hc with rfl | rfl | rfl | rfl | rfl
    · exact ⟨_, hz, fun v q => nomatch q⟩
    · exact ⟨_, hTI, fun v q => nomatch q⟩
    · exact ⟨_, hTO, fun v q => nomatch q⟩
    · exact ⟨o1, e1, fun v q => by rw [d1] at q; cases q⟩
    · exact ⟨o2, e2, fun v q => by rw [d2] at q; cases q⟩
  keep := fun i h h' st k => by
    obtain ⟨hz, hTI, ⟨p, q, hTO⟩, h1, h2⟩ := st
    obtain ⟨o1, e1, g1⟩ := h1
    exact ⟨k z (by simp) _ hz, k TI (by simp) _ hTI, ⟨p, q, k TO (by simp) _ hTO⟩, ⟨o1, k i1 (by simp) _ e1, g1⟩, h2.at fun o e => k i2 (by simp) o e⟩
  item := by
    intro X hP hw hK hc i pins s σ H E I hf st hg
    subst hP hw hK
    obtain ⟨hz, hTI, ⟨p0, q0, hTO⟩, h1, h2⟩ := st
    obtain ⟨ys, c, y, hq, hx, hy⟩ := hg
    obtain ⟨its, rv, p, _⟩ := I.list hq
    obtain ⟨u, hu, ru⟩ := rv.get hy
    have calm : X.A.in1.handled = none := by have := I.ok.hd hc; simp [this]
    have zl : z < s.heap.objs.size := Heap.lt_size hz
    have lt1 : i < x.cps.size := (Array.getElem?_eq_some_iff.mp hx).1
    have lt2 : i < its.toArray.size := by rw [List.size_toArray, ← rv.length]; exact (List.getElem?_eq_some_iff.mp hy).1
    refine wpAny_pyNext_zipD2_item f.sep (Draws.text (prog := X.prog) (w := X.w) calm i1 x t) (Draws.list (prog := X.prog) (w := X.w) calm i2 b (Ne.symm f.c4) its.toArray) hz hTI hTO h1 ⟨h2, p.isList⟩ lt1 lt2
      fun x1 x2 h' tk y1 y2 hz' hTO' d1 d2 hT hsz hk => ?_
    obtain ⟨c', t', hc', rfl⟩ := y1
    rw [hx] at hc'
    cases hc'
    have eu : u = x2 := by
      have q : its[i]? = some x2 := by simpa using y2
      rw [hu] at q
      exact Option.some.inj q
    subst eu
    refine ⟨_, rfl, wpAny_letOwnedTupleGo_zip (s := { s with heap := h', toks := tk }) hz' fun h'' z'' sb => ?_⟩
    have hT2 : h''.get? s.heap.objs.size = some { cls := .type "tuple", data := .seq #[.str ⟨#[c]⟩ t', u] } := (sb.2 _ (Nat.ne_of_gt zl)).trans hT
    have new : ObjOk X.prog X.w (L2.upd H s.heap.objs.size (.tup [.str ⟨#[c]⟩, y])) h'' s.heap.objs.size (.tup [.str ⟨#[c]⟩, y]) :=
      ⟨by show 2 ≤ sizeLine; decide, [.str ⟨#[c]⟩ t', u], .cons ⟨_, rfl⟩ (.cons ru .nil), ⟨_, hT2, rfl, _, rfl⟩⟩
    have I1 : Inv X pins σ (L2.upd H s.heap.objs.size (.tup [.str ⟨#[c]⟩, y])) { s with heap := h'', toks := tk } :=
      I.turnedNew (ch := [z, TI, TO, i1, i2]) (fun d o hb q => (sb.2 d (fun e => hb (by simp [e]))).trans (hk d o (fun e => hb (by simp [e])) (fun e => hb (by simp [e])) (fun e => hb (by simp [e])) (fun e => hb (by simp [e])) q)) hf (Nat.le_refl _) new
    obtain ⟨o1, e1, g1⟩ := d1
    refine ⟨.ref s.heap.objs.size, _, I1, rfl, ⟨_, c, y, rfl, I.hok.fresh (Nat.le_refl _), rfl, hx, fun l hl => by rw [I.list_inj hl hq]; exact hy⟩, ⟨z'', ?_, ⟨_, _, (sb.2 _ f.a2).trans hTO'⟩, ⟨o1, (sb.2 _ (Ne.symm f.a6)).trans e1, g1⟩, d2.1.at fun o q => (sb.2 _ (Ne.symm f.a7)).trans q⟩, fun d hd => ?_⟩
    · exact (sb.2 _ f.a1).trans (hk _ _ f.a1 f.a3 f.a4 f.a5 hTI)
    · have lt : d < s.heap.objs.size := by
        simp only [List.mem_cons, List.not_mem_nil, or_false] at hd
        rcases hd with rfl | rfl | rfl | rfl | rfl
        · exact zl
        · exact Heap.lt_size hTI
        · exact Heap.lt_size hTO
        · obtain ⟨_, e, _⟩ := h1; exact Heap.lt_size e
        · obtain ⟨_, e, _⟩ := h2; exact Heap.lt_size e
      rw [upd_ne (Nat.ne_of_lt lt)]
      exact (hf d hd).1
  done := by
    intro X hP hw hK hc i pins s σ H E I hf st hg
    subst hP hw hK
    obtain ⟨hz, hTI, ⟨p0, q0, hTO⟩, h1, h2⟩ := st
    obtain ⟨ys, hq, le1, le2, hend⟩ := hg
    obtain ⟨its, rv, p, _⟩ := I.list hq
    have l2 := rv.length
    have calm : X.A.in1.handled = none := by have := I.ok.hd hc; simp [this]
    refine wpAny_pyNext_zipD2_end f.sep (Draws.text (prog := X.prog) (w := X.w) calm i1 x t) (Draws.list (prog := X.prog) (w := X.w) calm i2 b (Ne.symm f.c4) its.toArray) hz hTI hTO h1 ⟨h2, p.isList⟩ le1 (by simp; omega) (by simp; omega)
      fun h' tk hk => ⟨rfl, I.turnedL (t' := tk) (ch := [z, TI, TO, i1, i2]) (fun d o hb q => hk d o (fun e => hb (by simp [e])) (fun e => hb (by simp [e])) (fun e => hb (by simp [e])) (fun e => hb (by simp [e])) q) hf⟩
  self := fun A i s Q E st h => wpAny_pyIter_zip st.1 h
def iZips (K : PySem.W.Frag) (ta : TA) : TI := fun σ H R => ta σ H fun vs H1 => ∃ x b ys, vs = [.str x, .ref b] ∧ SqL K H1 b ys ∧ R (Itzs K x b) H1
theorem pi_zips {X : Cx} {e e2 : Expr} {ta : TA} {p pos tpos : Pos} {elts : List Expr} {kk : Nat} (hg : Gl X "zip") (hm : X.mg "zip" = none) (ha : PA X [e, e2] ta)
    (hs : starEach [e, e2] X.env = (false, eval e X.env) :: starEach [e2] X.env := by rfl) (hpl : (backTo pos (starEach [e2] X.env)).any (·.1) = false := by rfl) :
    PI X (.Tuple elts kk tpos) (.Call (.Name "zip" p) [e, e2] [] pos) (iZips X.K ta) := by
  refine ⟨fun pins s σ H R I h => ?_⟩
  refine Call_ (ld_blt I hg hm PyProof.Rows.boot_zip (PyProof.Rows.callWith_type1 (thn (ha.run pos pins s σ H _ I h) fun us s1 hh => ?_) hs hpl))
  obtain ⟨vs, H1, I1, r1, x, b, ys, rfl, hq, q⟩ := hh
  cases r1 with
  | cons r rr =>
    cases rr with
    | cons r2 rr =>
      cases rr
      obtain ⟨t, rfl⟩ := r
      cases r2
      obtain ⟨its, rv, pl, _⟩ := I1.list hq
      have lb : b < s1.heap.objs.size := pl.lt
      refine zip_begins2 (begins_text x t) (begins_list b its.toArray) trivial pl.isList fun h' hz hTI hTO g1 g2 hsz hk => wpAny_pyIter_zip hz ?_
      have I2 : Inv X pins σ H1 { s1 with heap := h' } := I1.kept (t' := s1.toks) hk
      have far : Far (s1.heap.objs.size + 4) (s1.heap.objs.size + 2) (s1.heap.objs.size + 3) s1.heap.objs.size (s1.heap.objs.size + 1) b := by
        have ne : ∀ k : Nat, s1.heap.objs.size + k ≠ b := fun k => Nat.ne_of_gt (Nat.lt_of_lt_of_le lb (Nat.le_add_right _ _))
        refine ⟨?_, ?_, ?_, ?_, ?_, ?_, ?_, ?_, ?_, ?_, ne 4, ne 3, ne 0, ne 1⟩ <;> (intro h; have h' : (_ : Nat) = _ := h; omega)
      refine ⟨s1.heap.objs.size + 4, [s1.heap.objs.size + 4, s1.heap.objs.size + 2, s1.heap.objs.size + 3, s1.heap.objs.size, s1.heap.objs.size + 1], _, _, H1, rfl, I2, turn_zips x t far, ⟨hz, hTI, ⟨_, _, hTO⟩, ⟨_, g1, rfl, rfl⟩, ⟨_, g2, rfl, rfl⟩⟩, fun c hc => ?_, q⟩
      have hle : s1.heap.objs.size ≤ c := by
        simp only [List.mem_cons, List.not_mem_nil, or_false] at hc
        rcases hc with z | z | z | z | z <;> rw [z]
        · exact Nat.le_add_right _ _
        · exact Nat.le_add_right _ _
        · exact Nat.le_add_right _ _
        · exact Nat.le_refl _
        · exact Nat.le_add_right _ _
      exact I1.fpOk hle (I1.hok.fresh hle)
theorem walk_zips {K : PySem.W.Frag} {x : Str} {b : Addr} {ys : List V} (le : ys.length ≤ x.cps.size) : Walk (Itzs K x b) ys.length (fun H => SqL K H b ys)
    (fun i H v H' => ∃ (T : Addr) (c : Nat) (y : V), v = .ref T ∧ H T = none ∧ H' = L2.upd H T (.tup [.str ⟨#[c]⟩, y]) ∧ x.cps[i]? = some c ∧ ys[i]? = some y) where
  goes := fun i H hi g => ⟨ys, x.cps[i]'(by omega), ys[i], g, Array.getElem?_eq_getElem (by omega), List.getElem?_eq_getElem hi⟩
  stops := fun H g => ⟨ys, g, le, Nat.le_refl _, .inr rfl⟩
  yields := fun i H v H' hi g y => by
    obtain ⟨T, c, u, e1, e2, e3, e4, e5⟩ := y
    exact ⟨T, c, u, e1, e2, e3, e4, e5 ys g⟩
end Lf

set_option Elab.async false
set_option linter.all false
set_option maxRecDepth 100000
set_option maxHeartbeats 8000000
namespace K67
open PySem PySem.Spec PyProof.Rows L2 Lf
/-- a word as a text -/
def ws (x : List Nat) : Str := ⟨(x.map fun c => 97 + c).toArray⟩
abbrev wv (x : List Nat) : V := .str (ws x)
theorem ws_app {x : List Nat} {c : Nat} : (ws x ++ (⟨#[97 + c]⟩ : Str)) = ws (x ++ [c]) := by
  show Str.mk ((x.map fun c => 97 + c).toArray ++ #[97 + c]) = ws (x ++ [c])
  unfold ws
  simp
theorem ws_len {x : List Nat} : (ws x).length = x.length := by
  show ((x.map fun c => 97 + c).toArray).size = x.length
  simp
theorem word_shortF : ∀ (m : List (Nat × Nat)) (L : List (List Nat)) (n : Nat), (∀ w ∈ L, w.length ≤ n) → ∀ w ∈ m.foldl Mon.wordStep L, w.length ≤ n + m.length
  | [], L, n, h, w, hw => h w hw
  | p :: r, L, n, h, w, hw => by
    rw [List.length_cons, show n + (r.length + 1) = n + 1 + r.length by omega]
    refine word_shortF r (Mon.wordStep L p) (n + 1) (fun u hu => ?_) w hw
    unfold Mon.wordStep at hu
    rcases List.mem_append.mp hu with g | g
    · have := h u g
      omega
    · rw [List.mem_singleton.mp g, List.length_append, List.length_singleton]
      cases e : L[p.1]? with
      | none => rw [List.getD, e]; show 0 + 1 ≤ _; omega
      | some v =>
        rw [List.getD, e]
        have := h v (List.mem_of_getElem? e)
        show v.length + 1 ≤ _
        omega
theorem word_short {m : List (Nat × Nat)} {w : List Nat} (h : w ∈ Mon.wordTab m) : w.length ≤ m.length := by
  have := word_shortF m [[]] 0 (fun u hu => by rw [List.mem_singleton.mp hu]; exact Nat.le_refl _) w h
  omega
/-- what the search has found, as it lies -/
structure Lay (H : Hp) (pf pw pt pn : Addr) (as bs : List Addr) (found words rows : List (List Nat)) : Prop where
  f : H pf = some (.lst (as.map V.ref))
  fl : as.length = found.length
  fe : ∀ (j : Nat) a x, as[j]? = some a → found[j]? = some x → H a = some (.tup (x.map nv))
  w : H pw = some (.lst (words.map wv))
  t : H pt = some (.lst (bs.map V.ref))
  tl : bs.length = rows.length
  te : ∀ (j : Nat) b r, bs[j]? = some b → rows[j]? = some r → H b = some (.lst (r.map nv))
  tn : ∀ b ∈ bs, b ≠ pf ∧ b ≠ pw ∧ b ≠ pt
  d : H pn = some (.dT (dtab found))
  n1 : pf ≠ pw
  n2 : pf ≠ pt
  n3 : pw ≠ pt
section
variable {H : Hp} {pf pw pt pn p : Addr} {as bs : List Addr} {found words rows : List (List Nat)} {r : List Nat}
theorem Lay.same {H' : Hp} (L : Lay H pf pw pt pn as bs found words rows) (s : Same H H') : Lay H' pf pw pt pn as bs found words rows :=
  ⟨s _ _ L.f, L.fl, fun j a x h1 h2 => s _ _ (L.fe j a x h1 h2), s _ _ L.w, s _ _ L.t, L.tl, fun j b r h1 h2 => s _ _ (L.te j b r h1 h2), L.tn, s _ _ L.d, L.n1, L.n2, L.n3⟩
theorem Lay.gn (L : Lay H pf pw pt pn as bs found words rows) : pn ≠ pf ∧ pn ≠ pw ∧ pn ≠ pt := by
  refine ⟨fun z => ?_, fun z => ?_, fun z => ?_⟩
  · have := L.d; rw [z, L.f] at this; cases this
  · have := L.d; rw [z, L.w] at this; cases this
  · have := L.d; rw [z, L.t] at this; cases this
theorem Lay.bn (L : Lay H pf pw pt pn as bs found words rows) {b : Addr} (hb : b ∈ bs) : b ≠ pn := fun z => by
  obtain ⟨j, hj⟩ := List.getElem?_of_mem hb
  obtain ⟨r, hr⟩ := lt_get (show j < rows.length by rw [← L.tl]; exact get_lt hj)
  have := L.te j b r hj hr
  rw [z, L.d] at this
  cases this
/-- a list that is not of it changes -/
theorem Lay.off (L : Lay H pf pw pt pn as bs found words rows) {p : Addr} {l l' : List V} (hp : H p = some (.lst l)) (np : p ≠ pf ∧ p ≠ pw ∧ p ≠ pt) (nb : p ∉ bs) : Lay (upd H p (.lst l')) pf pw pt pn as bs found words rows where
  f := by rw [upd_ne np.1.symm]; exact L.f
  fl := L.fl
  fe := fun j a x h1 h2 => by
    have e := L.fe j a x h1 h2
    rw [upd_ne (fun z => by rw [z, hp] at e; cases e)]
    exact e
  w := by rw [upd_ne np.2.1.symm]; exact L.w
  t := by rw [upd_ne np.2.2.symm]; exact L.t
  tl := L.tl
  te := fun j b r h1 h2 => by
    rw [upd_ne (fun z => nb (by rw [← z]; exact List.mem_of_getElem? h1))]
    exact L.te j b r h1 h2
  tn := L.tn
  d := by
    have e := L.d
    rw [upd_ne (fun z => by rw [z, hp] at e; cases e)]
    exact e
  n1 := L.n1
  n2 := L.n2
  n3 := L.n3
/-- a row more -/
theorem Lay.row (L : Lay H pf pw pt pn as bs found words rows) {p : Addr} {r : List Nat} (hp : H p = some (.lst (r.map nv))) (np : p ≠ pf ∧ p ≠ pw ∧ p ≠ pt) : Lay (upd H pt (.lst ((bs ++ [p]).map V.ref))) pf pw pt pn as (bs ++ [p]) found words (rows ++ [r]) where
  f := by rw [upd_ne L.n2]; exact L.f
  fl := L.fl
  fe := fun j a x h1 h2 => by
    have e := L.fe j a x h1 h2
    rw [upd_ne (fun z => by rw [z, L.t] at e; cases e)]
    exact e
  w := by rw [upd_ne L.n3]; exact L.w
  t := upd_same
  tl := by rw [List.length_append, List.length_append, L.tl]; rfl
  te := fun j b r' h1 h2 => by
    rcases Mon.snoc_cases h1 with h1 | ⟨rfl, rfl⟩
    · rcases Mon.snoc_cases h2 with h2 | ⟨rfl, rfl⟩
      · rw [upd_ne (L.tn b (List.mem_of_getElem? h1)).2.2]
        exact L.te j b r' h1 h2
      · have := get_lt h1
        rw [L.tl] at this
        omega
    · rcases Mon.snoc_cases h2 with h2 | ⟨_, rfl⟩
      · have := get_lt h2
        rw [L.tl] at this
        omega
      · rw [upd_ne np.2.2]
        exact hp
  tn := fun b hb => by
    rcases List.mem_append.mp hb with h | h
    · exact L.tn b h
    · rw [List.mem_singleton.mp h]
      exact np
  d := by rw [upd_ne L.gn.2.2]; exact L.d
  n1 := L.n1
  n2 := L.n2
  n3 := L.n3
/-- an element more -/
theorem Lay.add (L : Lay H pf pw pt pn as bs found words rows) {b : Addr} {x wd : List Nat} (hb : H b = some (.tup (x.map nv))) : Lay (upd (upd (upd H pn (.dT (dtab (found ++ [x])))) pf (.lst ((as ++ [b]).map V.ref))) pw (.lst ((words ++ [wd]).map wv))) pf pw pt pn (as ++ [b]) bs (found ++ [x]) (words ++ [wd]) rows where
  f := by rw [upd_ne L.n1, upd_same]
  fl := by rw [List.length_append, List.length_append, L.fl]; rfl
  fe := fun j a y h1 h2 => by
    have e : H a = some (.tup (y.map nv)) := by
      rcases Mon.snoc_cases h1 with h1 | ⟨rfl, rfl⟩
      · rcases Mon.snoc_cases h2 with h2 | ⟨rfl, rfl⟩
        · exact L.fe j a y h1 h2
        · have := get_lt h1
          rw [L.fl] at this
          omega
      · rcases Mon.snoc_cases h2 with h2 | ⟨_, rfl⟩
        · have := get_lt h2
          rw [L.fl] at this
          omega
        · exact hb
    rw [upd_ne (fun z => by rw [z, L.w] at e; cases e), upd_ne (fun z => by rw [z, L.f] at e; cases e), upd_ne (fun z => by rw [z, L.d] at e; cases e)]
    exact e
  w := upd_same
  t := by rw [upd_ne L.n3.symm, upd_ne L.n2.symm, upd_ne L.gn.2.2.symm]; exact L.t
  tl := L.tl
  te := fun j c r h1 h2 => by
    have m := List.mem_of_getElem? h1
    obtain ⟨a1, a2, a3⟩ := L.tn c m
    rw [upd_ne a2, upd_ne a1, upd_ne (L.bn m)]
    exact L.te j c r h1 h2
  tn := L.tn
  d := by rw [upd_ne L.gn.2.1, upd_ne L.gn.1, upd_same]
  n1 := L.n1
  n2 := L.n2
  n3 := L.n3
/-- the row that grows -/
theorem Lay.chg (L : Lay H pf pw pt pn as (bs ++ [p]) found words (rows ++ [r])) (nb : p ∉ bs) {r' : List Nat} : Lay (upd H p (.lst (r'.map nv))) pf pw pt pn as (bs ++ [p]) found words (rows ++ [r']) := by
  have tp := L.tn p (by simp)
  have lb : bs.length = rows.length := by have := L.tl; rw [List.length_append, List.length_append] at this; simpa using this
  have hp : H p = some (.lst (r.map nv)) := L.te bs.length p r (by simp) (by rw [lb]; simp)
  exact {
    f := by rw [upd_ne tp.1.symm]; exact L.f
    fl := L.fl
    fe := fun j a x h1 h2 => by
      have e := L.fe j a x h1 h2
      rw [upd_ne (fun z => by rw [z, hp] at e; cases e)]
      exact e
    w := by rw [upd_ne tp.2.1.symm]; exact L.w
    t := by rw [upd_ne tp.2.2.symm]; exact L.t
    tl := by rw [List.length_append, List.length_append, lb]; rfl
    te := fun j b q h1 h2 => by
      rcases Mon.snoc_cases h1 with g1 | ⟨rfl, rfl⟩
      · rcases Mon.snoc_cases h2 with g2 | ⟨rfl, rfl⟩
        · rw [upd_ne (fun z => nb (by rw [← z]; exact List.mem_of_getElem? g1))]
          exact L.te j b q (Mon.get_app p g1) (Mon.get_app r g2)
        · have := get_lt g1
          omega
      · rcases Mon.snoc_cases h2 with g2 | ⟨_, rfl⟩
        · have := get_lt g2
          omega
        · exact upd_same
    tn := L.tn
    d := by
      have e := L.d
      rw [upd_ne (fun z => by rw [z, hp] at e; cases e)]
      exact e
    n1 := L.n1
    n2 := L.n2
    n3 := L.n3 }
end
end K67

set_option Elab.async false
set_option linter.all false
set_option maxRecDepth 100000
set_option maxHeartbeats 4000000
/-! Small things that many texts want. -/
namespace Lf
open PySem PySem.Spec PyProof.Rows L2
theorem yesT {σ : L2.St} {H : Hp} {A B : Hp → Prop} (h : A H) : tYes σ H fun b H3 => if b = true then A H3 else B H3 := by
  show if true = true then A H else B H
  rw [if_pos rfl]
  exact h
theorem pe_gstr {X : Cx} {x v : Str} {t : Tok} {pos : Pos} (hg : Gl X x) (hm : X.mg x = some (.str v t)) (hd : (x == ("__debug__" : Str)) = false := by decide +kernel) : PE X (.Name x pos) (tC (.str v)) := pe_glob hg hm ⟨t, rfl⟩ hd
theorem map_get {α β : Type} {f : α → β} {l : List α} {i : Nat} {y : β} (h : (l.map f)[i]? = some y) : ∃ a, l[i]? = some a ∧ y = f a := by
  rw [List.getElem?_map] at h
  cases z : l[i]? with
  | none => rw [z] at h; cases h
  | some a => rw [z] at h; exact ⟨a, rfl, (Option.some.inj h).symm⟩
theorem get_map {α β : Type} {f : α → β} {l : List α} {i : Nat} {a : α} (h : l[i]? = some a) : (l.map f)[i]? = some (f a) := by rw [List.getElem?_map, h]; rfl
theorem get_lt {α : Type} {l : List α} {i : Nat} {a : α} (h : l[i]? = some a) : i < l.length := (List.getElem?_eq_some_iff.mp h).1
theorem lt_get {α : Type} {l : List α} {i : Nat} (h : i < l.length) : ∃ a, l[i]? = some a := ⟨_, List.getElem?_eq_getElem h⟩
theorem nil_of {H H' : Hp} {p : Addr} (s : Same H H') (n : H' p = none) : H p = none := by
  cases e : H p with
  | none => rfl
  | some o => rw [s _ _ e] at n; cases n
theorem But.nil {H H' : Hp} {l p : Addr} (s : But l H H') (np : p ≠ l) (n : H' p = none) : H p = none := by
  cases e : H p with
  | none => rfl
  | some o => rw [s _ _ np e] at n; cases n
theorem tyx_same {K : PySem.W.Frag} {H H' : Hp} {x : V} {t : Value} (e : Same H H') (h : TyX K H x t) : TyX K H' x t := by
  cases h with
  | base b =>
    cases b with
    | non => exact .base .non
    | bl b => exact .base (.bl b)
    | int i => exact .base (.int i)
    | str s => exact .base (.str s)
    | flt f => exact .base (.flt f)
    | lst h => exact .base (.lst (e _ _ h))
    | frz h => exact .base (.frz (e _ _ h))
    | tup h => exact .base (.tup (e _ _ h))
    | dK h => exact .base (.dK (e _ _ h))
    | dT h => exact .base (.dT (e _ _ h))
    | ins h a b c d f => exact .base (.ins (e _ _ h) a b c d f)
  | byt b => exact .byt b
  | set h => exact .set (e _ _ h)
  | kList h c => exact .kList h c
  | kTuple h c => exact .kTuple h c
  | kDict h c => exact .kDict h c
  | fTuple h => exact .fTuple (e _ _ h)
  | fDict h => exact .fDict (e _ _ h)
/-- a number, or what is none -/
inductive NumK (K : PySem.W.Frag) (H : Hp) : V → Option Int → Prop
  | int (i : Int) : NumK K H (.int i) (some i)
  | bl (b : Bool) : NumK K H (.bl b) none
  | oth {x : V} {n : String} (ty : TyX K H x (.type n)) (e : kitB n "int" = some false) : NumK K H x none
theorem NumK.same {K : PySem.W.Frag} {H H' : Hp} {x : V} {o : Option Int} (e : Same H H') (h : NumK K H x o) : NumK K H' x o := by
  cases h with
  | int i => exact .int i
  | bl b => exact .bl b
  | oth t q => exact .oth (tyx_same e t) q
/-- a text, or what is none -/
inductive TxtK (K : PySem.W.Frag) (H : Hp) : V → Option Str → Prop
  | str (z : Str) : TxtK K H (.str z) (some z)
  | oth {x : V} {n : String} (ty : TyX K H x (.type n)) (e : kitB n "str" = some false) : TxtK K H x none
theorem TxtK.same {K : PySem.W.Frag} {H H' : Hp} {x : V} {o : Option Str} (e : Same H H') (h : TxtK K H x o) : TxtK K H' x o := by
  cases h with
  | str i => exact .str i
  | oth t q => exact .oth (tyx_same e t) q
def isTx : Option Str → Bool
  | some _ => true
  | none => false
theorem TxtK.ty {K : PySem.W.Frag} {H : Hp} {x : V} {o : Option Str} (h : TxtK K H x o) : ∃ n, TyX K H x (.type n) ∧ PySem.W.kitOne K (.type n) (.type "str") = some (isTx o) := by
  cases h with
  | str z => exact ⟨_, .base (.str z), kit_ty (show kitB "str" "str" = some true by decide +kernel)⟩
  | oth t q => exact ⟨_, t, kit_ty q⟩
end Lf

set_option Elab.async false
set_option linter.all false
set_option maxRecDepth 100000
set_option maxHeartbeats 8000000
namespace K67
open PySem PySem.Spec PyProof.Rows L2 Lf
/-- what one letter does to each state -/
def cols (wd : Nat) (mv : List (List Nat)) : List (List Nat) := (List.range wd).map fun c => mv.map fun r => r.getD c 0
def FormM (mv : List (List Nat)) (wd : Nat) : Prop := 1 ≤ mv.length ∧ 1 ≤ wd ∧ wd ≤ 4 ∧ ∀ row ∈ mv, row.length = wd ∧ ∀ t ∈ row, t < mv.length
theorem cols_len {wd : Nat} {mv : List (List Nat)} : (cols wd mv).length = wd := by unfold cols; rw [List.length_map, List.length_range]
theorem cols_at {wd c : Nat} {mv : List (List Nat)} (h : c < wd) : (cols wd mv)[c]? = some (mv.map fun r => r.getD c 0) := by
  unfold cols
  rw [List.getElem?_map, List.getElem?_range h]
  rfl
theorem cols_valid {wd : Nat} {mv : List (List Nat)} (F : FormM mv wd) : ∀ g ∈ cols wd mv, Mon.Valid mv.length g := by
  intro g hg
  obtain ⟨c, hc, rfl⟩ := List.mem_map.mp hg
  refine ⟨List.length_map _, fun i hi => ?_⟩
  obtain ⟨row, hr, rfl⟩ := List.mem_map.mp hi
  obtain ⟨h1, h2⟩ := F.2.2.2 row hr
  have lt : c < row.length := by rw [h1]; exact List.mem_range.mp hc
  rw [Mon.getD_at lt]
  exact h2 _ (List.getElem_mem lt)
/-- a list of lists, beside the source -/
structure RowsH (H : Hp) (l r : Addr) (rows : List (List Nat)) : Prop where
  ex : r ≠ l ∧ ∃ as : List Addr, H r = some (.lst (as.map V.ref)) ∧ as.length = rows.length ∧ ∀ (i : Nat) a row, as[i]? = some a → rows[i]? = some row → a ≠ l ∧ H a = some (.lst (row.map nv))
theorem RowsH.but {H H' : Hp} {l r : Addr} {rows : List (List Nat)} (h : RowsH H l r rows) (e : But l H H') : RowsH H' l r rows := by
  obtain ⟨n, as, a, b, c⟩ := h.ex
  exact ⟨n, as, e _ _ n a, b, fun i x row h1 h2 => ⟨(c i x row h1 h2).1, e _ _ (c i x row h1 h2).1 (c i x row h1 h2).2⟩⟩
theorem RowsH.same {H H' : Hp} {l r : Addr} {rows : List (List Nat)} (h : RowsH H l r rows) (e : Same H H') : RowsH H' l r rows := h.but (But.of e)
theorem RowsH.rl {K : PySem.W.Frag} {H : Hp} {l r : Addr} {rows : List (List Nat)} (h : RowsH H l r rows) : RowsL K H r rows := by
  obtain ⟨n, as, a, b, c⟩ := h.ex
  exact ⟨as, SqL.of a, b, fun i x row h1 h2 => SqL.of (c i x row h1 h2).2⟩
def spActs : Sp := fun vs H Q _ => ∃ l r mv wd, vs = [.ref r] ∧ RowsH H l r mv ∧ FormM mv wd ∧ mv.length ≤ 4 ∧
  ∀ T pf pw pt pn as bs found rows m H', Same H H' → H T = none → H' T = some (.tup [.ref pf, .ref pw, .ref pt]) → Lay H' pf pw pt pn as bs found (Mon.wordTab m) rows → Mon.Tab mv.length (cols wd mv) found rows → Mon.madeTab 0 rows [] = some m → m.length + 1 = rows.length → (H pf = none ∧ H pw = none ∧ H pt = none ∧ ∀ b ∈ bs, H b = none) → Q (.ref T) H'
abbrev teAct (K : PySem.W.Frag) : TE := tOp (rIxL K) (tOp (rIxL K) (tVar 0) (tVar 9)) (tVar 7)
abbrev NAc : List Str := ["_law_moves_here", "_law_first", "_law_acts_here", "_law_words_so", "_law_known", "_law_table", "_law_at", "_law_letter", "_law_later", "_law_state"]
theorem rgV_nv {n : Nat} : rgV 0 (n : Nat) = (Mon.idm n).map nv := by
  unfold rgV Mon.idm
  simp
theorem abcd_at {c : Nat} (h : c < 4) : ("abcd" : Str).cps.toList[c]? = some (97 + c) := by
  have : c = 0 ∨ c = 1 ∨ c = 2 ∨ c = 3 := by omega
  rcases this with rfl | rfl | rfl | rfl <;> decide +kernel
section
variable {P : Program} {w : World} {K : PySem.W.Frag} {mg : Str → Option Value} {base : Heap}
theorem scActs : FnScope NAc ["_law_moves_here"] (defScope s_L_acts) := ⟨rfl, rfl, rfl, by decide +kernel, rfl, by decide +kernel, by decide +kernel⟩
theorem ok_acts {f : Addr} {fd : FuncData} {q : Str} (F : FunD K "_law_acts" q (defArgs s_L_acts) (defBody s_L_acts) (defScope s_L_acts) [] [] f fd) (zr : mg "range" = none) (zt : mg "tuple" = none) (zn : mg "len" = none) :
    FnOk P w K mg base CX0 1 f fd ["_law_moves_here"] spActs := by
  refine F.ok scActs (fun vs H Q E h => ?_) (fun cdv A outer s H vs Q E hr h => ?_)
  · obtain ⟨l, r, mv, wd, rfl, _⟩ := h
    rfl
  · obtain ⟨l, r, mv, wd, rfl, M, FM, n4, k⟩ := h
    have hu : (A.deeper (envOfC q (defScope s_L_acts) s.heap.objs.size f cdv)).units + 1 < cLine := by have := hr.units; omega
    refine ⟨_, PSs.nox (pss_cons (ps_set (i := 1) scActs.nd rfl (.inl rfl) (pe_tupRg rfl rfl zt (prg_1 rfl zr (pe_callB call_len_seq rfl zn boot_len (pa_cons (pv 0) pa_nil)))))
      (pss_cons (ps_asg (pe_tup (pa_cons (pe_lst (pa_cons (pv 1) pa_nil)) (pa_cons (pe_lst (pa_cons pe_str pa_nil)) (pa_cons (pe_dispT1 hu (pv 1) pe_int) (pa_cons (pe_lst pa_nil) (pa_cons pe_int pa_nil))))))
        (pg_tup rfl (pgs_cons (pg_name (i := 2) scActs.nd rfl (.inl rfl)) (pgs_cons (pg_name (i := 3) scActs.nd rfl (.inl rfl)) (pgs_cons (pg_name (i := 4) scActs.nd rfl (.inl rfl)) (pgs_cons (pg_name (i := 5) scActs.nd rfl (.inl rfl)) (pgs_cons (pg_name (i := 6) scActs.nd rfl (.inl rfl)) pgs_nil)))))))
      (pss_cons (ps_while PassesOwn.never (pt_cmpR op_lt (pv 6) (pe_callB call_len_seq rfl zn boot_len (pa_cons (pv 2) pa_nil)) (nomark _))
        (pss_cons (ps_expr (pe_bm PySem.F.plainAttrs_list PySem.F.slot_list_append PySem.F.type_list_append mt_append (pv 5) (pa_cons (pe_lst pa_nil) pa_nil)))
        (pss_cons (ps_for PassesOwn.never rfl (pi_range1 rfl zr (pa_cons (pe_callB call_len_seq rfl zn boot_len (pa_cons (pe_ix ix_list (pv 0) pe_int (fun _ _ => rfl)) pa_nil)) pa_nil)) (pg_name (i := 7) scActs.nd rfl (.inr rfl))
          (pss_cons (ps_set (i := 8) scActs.nd rfl (.inl rfl) (pe_callTy call_tuple_of rfl zt PyProof.Rows.boot_tuple (pa_cons (pe_lc (own := [("_law_state", 9)]) (g := gName 9) (te := teAct K) (by rfl) scActs.nd (pi_tup (pe_ix ix_list (pv 2) (pv 6) (fun _ _ => rfl))) (blkOk_by (own := [("_law_state", 9)]) (N := NAc) (sc := defScope s_L_acts) (by decide +kernel)) (fun _ _ _ _ _ => pg_name (i := 9) scActs.nd rfl (Or.inl rfl)) (fun _ _ _ _ _ => pts_nil)
              (fun _ _ _ _ _ => by exact pe_ix ix_list (pe_ix ix_list (pv 0) (pv 9) (fun _ _ => rfl)) (pv 7) (fun _ _ => rfl))) pa_nil)))
          (pss_cons (ps_if (pt_cmp (pc_dnotin hu (pv 8) (pv 4)) (by rfl))
            (pss_cons (ps_dput hu (pv 4) (pv 8) (pe_callB call_len_seq rfl zn boot_len (pa_cons (pv 2) pa_nil)) rfl)
            (pss_cons (ps_expr (pe_bm PySem.F.plainAttrs_list PySem.F.slot_list_append PySem.F.type_list_append mt_append (pv 2) (pa_cons (pv 8) pa_nil)))
            (pss_one (ps_expr (pe_bm PySem.F.plainAttrs_list PySem.F.slot_list_append PySem.F.type_list_append mt_append (pv 3) (pa_cons (pe_op op_add_str (pe_ix ix_list (pv 3) (pv 6) (fun _ _ => rfl)) (pe_ix ix_str pe_str (pv 7) (fun _ _ => rfl))) pa_nil)))))) pss_nil)
          (pss_one (ps_expr (pe_bm PySem.F.plainAttrs_list PySem.F.slot_list_append PySem.F.type_list_append mt_append (pe_ix ix_list (pv 5) (pv 6) (fun _ _ => rfl)) (pa_cons (pe_dget hu (pv 4) (pv 8) (fun _ _ => rfl)) pa_nil)))))))
        (pss_one (ps_set (i := 6) scActs.nd rfl (.inl rfl) (pe_op op_add (pv 6) pe_int))))))
      (pss_one (ps_ret (pe_tup (pa_cons (pv 2) (pa_cons (pv 3) (pa_cons (pv 5) pa_nil))))))))), ?_⟩
    obtain ⟨nrl, gs, hr0, lg, eg⟩ := M.ex
    have gv := cols_valid FM
    have gl : (cols wd mv).length = wd := cols_len
    obtain ⟨f1, f2, f3, f4⟩ := FM
    obtain ⟨n, hn⟩ : ∃ n, n = mv.length := ⟨_, rfl⟩
    rw [← hn] at gv f1 n4 k
    refine ⟨_, rfl, r, gs.map V.ref, rfl, .inl (SqL.of hr0), (n : Nat), by rw [List.length_map, lg, hn], ⟨by decide, by decide, by omega, by omega, by omega⟩, fun i0 ni0 => ?_⟩
    rw [rgV_nv]
    have s1 := same_upd (o := .tup ((Mon.idm n).map nv)) ni0
    have h1 : upd H i0 (.tup ((Mon.idm n).map nv)) i0 = some (.tup ((Mon.idm n).map nv)) := upd_same
    generalize upd H i0 (.tup ((Mon.idm n).map nv)) = H1 at s1 h1 ⊢
    refine ⟨_, rfl, (by show 1 ≤ sizeLine; decide), fun pf nf => ⟨(by show 1 ≤ sizeLine; decide), fun pw nw => ?_⟩⟩
    have hpf0 : H pf = none := nil_of s1 nf
    have hf2 : upd H1 pf (.lst [.ref i0]) pf = some (.lst ([i0].map V.ref)) := upd_same
    have s2 := s1.trans (same_upd (o := .lst [.ref i0]) nf)
    have h2 := same_upd (o := .lst [.ref i0]) nf _ _ h1
    generalize upd H1 pf (.lst [.ref i0]) = H2 at s2 h2 hf2 nw ⊢
    have hpw0 : H pw = none := nil_of s2 nw
    have hw3 : upd H2 pw (.lst [.str ("" : Str)]) pw = some (.lst ([[]].map wv)) := upd_same
    have u3 := same_upd (o := .lst [.str ("" : Str)]) nw
    have s3 := s2.trans u3
    have h3 := u3 _ _ h2
    have hf3 := u3 _ _ hf2
    have d1 := ne_of_none hf2 nw
    generalize upd H2 pw (.lst [.str ("" : Str)]) = H3 at s3 h3 hf3 hw3 ⊢
    intro pn nn
    have u5 := same_upd (o := .dT []) nn
    have s5 := s3.trans u5
    have h5 := u5 _ _ h3
    have hf5 := u5 _ _ hf3
    have hw5 := u5 _ _ hw3
    have hn5 : upd H3 pn (.dT []) pn = some (.dT []) := upd_same
    have hn0 : H pn = none := nil_of s3 nn
    generalize upd H3 pn (.dT []) = H5 at s5 h5 hf5 hw5 hn5 ⊢
    refine ⟨_, rfl, kt (Mon.idm n), i0, _, hn5, rfl, by rw [kt_map]; exact h5, rfl, ?_⟩
    have s6 : Same H (upd H5 pn (.dT [(kt (Mon.idm n), .int 0)])) := fun b o e => by
      rw [upd_ne (ne_of_none e hn0)]
      exact s5 b o e
    have e1 : pn ≠ pf := fun z => by rw [z, hf5] at hn5; cases hn5
    have e2 : pn ≠ pw := fun z => by rw [z, hw5] at hn5; cases hn5
    have e4 : i0 ≠ pn := fun z => by rw [z, hn5] at h5; cases h5
    have hf6 : upd H5 pn (.dT [(kt (Mon.idm n), .int 0)]) pf = some (.lst ([i0].map V.ref)) := by rw [upd_ne e1.symm]; exact hf5
    have hw6 : upd H5 pn (.dT [(kt (Mon.idm n), .int 0)]) pw = some (.lst ([[]].map wv)) := by rw [upd_ne e2.symm]; exact hw5
    have h6 : upd H5 pn (.dT [(kt (Mon.idm n), .int 0)]) i0 = some (.tup ((Mon.idm n).map nv)) := by rw [upd_ne e4]; exact h5
    have hn6 : upd H5 pn (.dT [(kt (Mon.idm n), .int 0)]) pn = some (.dT (dtab [Mon.idm n])) := upd_same
    generalize upd H5 pn (.dT [(kt (Mon.idm n), .int 0)]) = H6 at s6 hf6 hw6 h6 hn6 ⊢
    clear s5 h5 hf5 hw5 hn5 u5 hf3 hw3 h3 u3 s3 nn nf nw s2 s1 h1 h2 hf2
    refine ⟨(by show 0 ≤ sizeLine; decide), fun pt nt => ?_⟩
    have hpt0 : H pt = none := nil_of s6 nt
    have u7 := same_upd (o := .lst []) nt
    have s7 := s6.trans u7
    have L0 : Lay (upd H6 pt (.lst [])) pf pw pt pn [i0] [] [Mon.idm n] (Mon.wordTab []) [] := by
      refine ⟨u7 _ _ hf6, rfl, fun j a x g1 g2 => ?_, u7 _ _ hw6, upd_same, rfl, fun j b r g1 g2 => (by simp at g1), fun b hb => (by cases hb), u7 _ _ hn6, d1, ne_of_none hf6 nt, ne_of_none hw6 nt⟩
      cases j with
      | zero =>
        cases g1
        cases g2
        exact u7 _ _ h6
      | succ j => simp at g1
    generalize upd H6 pt (.lst []) = H7 at s7 L0 ⊢
    clear u7 s6 hf6 hw6 h6 hn6 nt
    refine ⟨(by show 5 ≤ sizeLine; decide), fun TT nTT => ⟨TT, _, rfl, SqT.of upd_same, rfl, _, _, rfl, _, _, rfl, _, _, rfl, _, _, rfl, _, _, rfl, rfl, ?_⟩⟩
    have u8 := same_upd (o := .tup [.ref pf, .ref pw, .ref pn, .ref pt, .int 0]) nTT
    have s8 := s7.trans u8
    have L1 := L0.same u8
    generalize upd H7 TT (.tup [.ref pf, .ref pw, .ref pn, .ref pt, .int 0]) = H8 at s8 L1 ⊢
    clear u8 s7 L0 nTT
    have few : ∀ {i c : Nat} {found rows : List (List Nat)} {row : List Nat} {m : List (Nat × Nat)}, Mon.Bfs n (cols wd mv) i c found rows row m → found.length ≤ 256 := fun B => by
      have g1 := B.few
      have g2 : n ^ n ≤ 256 := by
        have : n = 1 ∨ n = 2 ∨ n = 3 ∨ n = 4 := by omega
        rcases this with rfl | rfl | rfl | rfl <;> decide
      omega
    refine ⟨fun M σ Hn => ∃ (i : Nat) (v7 v8 : Option V), i + M = 300 ∧ σ = [some (.ref r), some (.ref i0), some (.ref pf), some (.ref pw), some (.ref pn), some (.ref pt), some (.int (i : Nat)), v7, v8, none] ∧ Same H Hn ∧ ∃ as bs found rows m, Lay Hn pf pw pt pn as bs found (Mon.wordTab m) rows ∧ Mon.Bfs n (cols wd mv) i 0 found rows [] m ∧ ∀ b ∈ bs, H b = none,
      ⟨300, 0, none, none, rfl, rfl, s8, [i0], [], [Mon.idm n], [], [], L1, Mon.Bfs.start gv, fun b hb => (by cases hb)⟩, ?_⟩
    rintro MM σ Hn ⟨i, v7, v8, iM, rfl, sn, as, bs, found, rows, m, L, B, fr⟩
    have fw := few B
    refine ⟨_, rfl, _, rfl, pf, as.map V.ref, rfl, .inl (SqL.of L.f), _, _, rfl, rfl, _, rfl, ?_⟩
    rw [List.length_map, L.fl]
    by_cases il : i < found.length
    · rw [decide_eq_true (show ((i : Nat) : Int) < ((found.length : Nat) : Int) by omega)]
      refine ifT rfl ⟨_, fun σ' H' z => z, ?_⟩
      refine ⟨_, rfl, .inl ⟨rfl, _, SqL.of L.t⟩, (by show 0 ≤ sizeLine; decide), fun pr nr => ?_⟩
      have np : pr ≠ pf ∧ pr ≠ pw ∧ pr ≠ pt := ⟨(ne_of_none L.f nr).symm, (ne_of_none L.w nr).symm, (ne_of_none L.t nr).symm⟩
      have nb : pr ∉ bs := fun hb => by
        obtain ⟨j, hj⟩ := List.getElem?_of_mem hb
        obtain ⟨r', hr'⟩ := lt_get (show j < rows.length by rw [← L.tl]; exact get_lt hj)
        have := L.te j pr r' hj hr'
        rw [nr] at this
        cases this
      have u := same_upd (o := .lst []) nr
      have L1 := L.same u
      have s9 := sn.trans u
      have hr9 : upd Hn pr (.lst []) pr = some (.lst (([] : List Nat).map nv)) := upd_same
      have nr0 : H pr = none := nil_of sn nr
      generalize upd Hn pr (.lst []) = H9 at L1 s9 hr9 ⊢
      clear L nr u sn
      refine ⟨pt, bs.map V.ref, _, rfl, rfl, L1.t, by rw [List.length_map, L1.tl, B.len]; show i < 16777216; omega, ?_⟩
      have LT : Lay (upd H9 pt (.lst (bs.map V.ref ++ [.ref pr]))) pf pw pt pn as (bs ++ [pr]) found (Mon.wordTab m) (rows ++ [[]]) := by
        have := L1.row hr9 np
        rw [List.map_append] at this
        exact this
      have s10 : Same H (upd H9 pt (.lst (bs.map V.ref ++ [.ref pr]))) := fun b o e => by
        rw [upd_ne (ne_of_none e hpt0)]
        exact s9 b o e
      generalize upd H9 pt (.lst (bs.map V.ref ++ [.ref pr])) = H10 at s10 LT ⊢
      clear L1 s9 hr9
      have bl : bs.length = rows.length := by have := LT.tl; rw [List.length_append, List.length_append] at this; simpa using this
      have ri : rows.length = i := B.len
      obtain ⟨a0, ha0⟩ := lt_get (show 0 < gs.length by omega)
      obtain ⟨r0, hr00⟩ := lt_get (show 0 < mv.length by omega)
      have lr0 := (f4 r0 (List.mem_of_getElem? hr00)).1
      refine ⟨_, rfl, r, gs.map V.ref, 0, .ref a0, rfl, rfl, SqL.of (s10 _ _ hr0), atI_nat (j := 0) (get_map ha0), a0, r0.map nv, rfl, .inl (SqL.of (s10 _ _ (eg 0 a0 r0 ha0 hr00).2)), (wd : Nat), by rw [List.length_map, lr0], by omega, by omega, ?_⟩
      refine for_range (lo := 0) (n := wd) (fun c σ Hc => ∃ v7 v8 : Option V, σ = [some (.ref r), some (.ref i0), some (.ref pf), some (.ref pw), some (.ref pn), some (.ref pt), some (.int (i : Nat)), v7, v8, none] ∧ Same H Hc ∧ ∃ as found m row, Lay Hc pf pw pt pn as (bs ++ [pr]) found (Mon.wordTab m) (rows ++ [row]) ∧ Mon.Bfs n (cols wd mv) i c found rows row m ∧ i < found.length)
        ⟨_, _, rfl, s10, as, found, m, [], LT, B, il⟩ ?_ ?_
      · rintro c σ Hc hc ⟨v7, v8, rfl, sc, as, found, m, row, L, B, il⟩
        have fw := few B
        have ec : (0 : Int) + (c : Nat) = (c : Nat) := by omega
        obtain ⟨x, hx⟩ := lt_get il
        obtain ⟨a, ha⟩ := lt_get (show i < as.length by rw [L.fl]; exact il)
        have vx := B.val x (List.mem_of_getElem? hx)
        have hg := cols_at (mv := mv) hc
        obtain ⟨g, eg0⟩ : ∃ g, g = mv.map fun r => r.getD c 0 := ⟨_, rfl⟩
        rw [← eg0] at hg
        have ha8 := L.fe i a x ha hx
        rw [ec]
        refine ⟨_, rfl, _, rfl, pf, as.map V.ref, _, .ref a, rfl, rfl, SqL.of L.f, atI_nat (get_map ha), a, rfl, ⟨_, SqT.of ha8⟩, fun D nD => ?_⟩
        refine lc_tup (K := K) (a := a) (xs := x.map nv) (fun j Hd => But D Hc Hd ∧ Hd D = some (.lst (((x.take j).map fun i => g.getD i 0).map nv))) ⟨But.upd, upd_same⟩ (fun j Hd _ ⟨bd, _⟩ => Lf.SqT.same (Same.but (L2.Same.refl _) nD bd) (SqT.of ha8)) (fun j z Hd hz ⟨bd, hD⟩ => ?_) (fun Hd ⟨bd, hD⟩ => ?_)
        · obtain ⟨xi, hxi, rfl⟩ := map_get hz
          refine ⟨rfl, yesT ?_⟩
          have sd := sc.trans (Same.but (L2.Same.refl _) nD bd)
          have xl : xi < n := vx.2 xi (List.mem_of_getElem? hxi)
          obtain ⟨ax, hax⟩ := lt_get (show xi < gs.length by omega)
          obtain ⟨rx, hrx⟩ := lt_get (show xi < mv.length by omega)
          have lrx := (f4 rx (List.mem_of_getElem? hrx)).1
          obtain ⟨e, he⟩ := lt_get (show c < rx.length by omega)
          have ge : g.getD xi 0 = e := by
            rw [eg0]
            refine Mon.getD_of ?_
            rw [List.getElem?_map, hrx]
            show some (rx.getD c 0) = some e
            rw [Mon.getD_of he]
          refine ⟨_, rfl, _, rfl, r, gs.map V.ref, _, .ref ax, rfl, rfl, SqL.of (sd _ _ hr0), atI_nat (get_map hax), _, rfl, ax, rx.map nv, _, nv e, rfl, rfl, SqL.of (sd _ _ (eg xi ax rx hax hrx).2), atI_nat (get_map he), ?_⟩
          refine ⟨_, hD, ?_, But.trans bd But.upd, ?_⟩
          · rw [List.length_map, List.length_map, List.length_take]
            have := vx.1
            show min j x.length < 16777216
            omega
          · rw [upd_same, take_snoc hxi, List.map_append, List.map_append, List.map_cons, List.map_nil, List.map_cons, List.map_nil, ge]
        · rw [List.length_map, List.take_length] at hD
          have sd := Same.but (L2.Same.refl _) nD bd
          refine ⟨D, _, rfl, .inl ⟨SqL.of hD, fun N nN => ?_⟩⟩
          have u9 := sd.trans (same_upd (o := .tup ((x.map fun i => g.getD i 0).map nv)) nN)
          have hN : L2.upd Hd N (.tup ((x.map fun i => g.getD i 0).map nv)) N = some (.tup ((kt (Mon.comp x g)).map kV)) := by rw [kt_map]; exact upd_same
          generalize L2.upd Hd N (.tup ((x.map fun i => g.getD i 0).map nv)) = H9 at u9 hN ⊢
          have s9 := sc.trans u9
          have L9 := L.same u9
          have hNn : H9 N = some (.tup ((Mon.comp x g).map nv)) := by rw [hN, kt_map]
          clear hD bd sd nN u9 sc L ha8
          have tlen : (bs ++ [pr]).length = i + 1 := by rw [List.length_append, bl, ri]; rfl
          have tat : ((bs ++ [pr]).map V.ref)[i]? = some (.ref pr) := by
            rw [List.getElem?_map, List.getElem?_append_right (by omega), show i - bs.length = 0 by omega]
            rfl
          have hRr : ∀ {H' : Hp} {as found words row}, Lay H' pf pw pt pn as (bs ++ [pr]) found words (rows ++ [row]) → H' pr = some (.lst (row.map nv)) := fun L => L.te bs.length pr _ (by simp) (by rw [bl]; simp)
          have rl : (row.map nv).length < 16777216 := by rw [List.length_map, B.rlen]; omega
          refine ⟨_, rfl, _, rfl, pn, _, rfl, DGet.t L9.d hN, _, rfl, ?_⟩
          by_cases hm : Mon.comp x g ∈ found
          · obtain ⟨t, ht⟩ := List.getElem?_of_mem hm
            have hv : valV (dtab found) (kt (Mon.comp x g)) = some (nv t) := by
              have := dtabF_some (k := 0) B.nd ht
              rwa [Nat.zero_add] at this
            rw [hv]
            refine ifF rfl ?_
            refine ⟨_, rfl, _, rfl, pt, _, _, .ref pr, rfl, rfl, SqL.of L9.t, atI_nat tat, .inl ⟨rfl, _, SqL.of (hRr L9)⟩, _, rfl, _, rfl, pn, nv t, rfl, hv ▸ DGet.t L9.d hN, pr, row.map nv, _, rfl, rfl, hRr L9, rl, _, _, rfl, fun b o e => ?_, as, found, m, row ++ [t], ?_, B.old hx hg ht, il⟩
            · rw [upd_ne (ne_of_none e nr0)]
              exact s9 b o e
            · have := L9.chg nb (r' := row ++ [t])
              rw [List.map_append] at this
              exact this
          · have hv : valV (dtab found) (kt (Mon.comp x g)) = none := dtabF_none hm
            rw [hv]
            refine ifT rfl ?_
            obtain ⟨wd', hwd⟩ := lt_get (show i < (Mon.wordTab m).length by rw [Mon.word_len, B.mlen]; exact il)
            have lwd := word_short (List.mem_of_getElem? hwd)
            have ml := B.mlen
            obtain ⟨e1, e2, e3⟩ := L9.gn
            refine ⟨_, rfl, pf, as.map V.ref, rfl, .inl (SqL.of L9.f), _, rfl, _, rfl, pn, _, rfl, DPut.t L9.d hN (by rw [dtabF_len]; show found.length < 16777216; omega), ?_⟩
            rw [List.length_map, L9.fl, dtab_put hm]
            have hf10 : L2.upd H9 pn (.dT (dtab (found ++ [Mon.comp x g]))) pf = some (.lst (as.map V.ref)) := by rw [upd_ne e1.symm]; exact L9.f
            have hw11 : L2.upd (L2.upd H9 pn (.dT (dtab (found ++ [Mon.comp x g])))) pf (.lst (as.map V.ref ++ [.ref N])) pw = some (.lst ((Mon.wordTab m).map wv)) := by rw [upd_ne L9.n1.symm, upd_ne e2.symm]; exact L9.w
            refine ⟨_, rfl, .inl ⟨rfl, _, SqL.of hf10⟩, _, rfl, pf, as.map V.ref, _, rfl, rfl, hf10, (by rw [List.length_map, L9.fl]; show found.length < 16777216; omega), ?_⟩
            refine ⟨_, rfl, .inl ⟨rfl, _, SqL.of hw11⟩, _, rfl, _, rfl, pw, _, _, wv wd', rfl, rfl, SqL.of hw11, atI_nat (get_map hwd), _, rfl, _, _, _, rfl, rfl, (by decide), atI_nat (abcd_at (by omega)), ws wd', ⟨#[97 + c]⟩, rfl, rfl, (by rw [ws_len]; show wd'.length + 1 ≤ 16777216; omega), pw, (Mon.wordTab m).map wv, _, rfl, rfl, hw11, (by rw [List.length_map, Mon.word_len]; show m.length + 1 < 16777216; omega), ?_⟩
            have B2 := B.new hx hg hm
            have L12 : Lay (L2.upd (L2.upd (L2.upd H9 pn (.dT (dtab (found ++ [Mon.comp x g])))) pf (.lst (as.map V.ref ++ [.ref N]))) pw (.lst ((Mon.wordTab m).map wv ++ [.str (ws wd' ++ (⟨#[97 + c]⟩ : Str))]))) pf pw pt pn (as ++ [N]) (bs ++ [pr]) (found ++ [Mon.comp x g]) (Mon.wordTab (m ++ [(i, c)])) (rows ++ [row]) := by
              have q := L9.add (wd := wd' ++ [c]) hNn
              rw [Mon.word_snoc, Mon.wordStep, Mon.getD_of hwd, ws_app]
              simp only [List.map_append, List.map_cons, List.map_nil] at q ⊢
              exact q
            have hN12 : L2.upd (L2.upd (L2.upd H9 pn (.dT (dtab (found ++ [Mon.comp x g])))) pf (.lst (as.map V.ref ++ [.ref N]))) pw (.lst ((Mon.wordTab m).map wv ++ [.str (ws wd' ++ (⟨#[97 + c]⟩ : Str))])) N = some (.tup ((kt (Mon.comp x g)).map kV)) := by
              rw [upd_ne (fun z => by rw [z, L9.w] at hN; cases hN), upd_ne (fun z => by rw [z, L9.f] at hN; cases hN), upd_ne (fun z => by rw [z, L9.d] at hN; cases hN)]
              exact hN
            have s12 : Same H (L2.upd (L2.upd (L2.upd H9 pn (.dT (dtab (found ++ [Mon.comp x g])))) pf (.lst (as.map V.ref ++ [.ref N]))) pw (.lst ((Mon.wordTab m).map wv ++ [.str (ws wd' ++ (⟨#[97 + c]⟩ : Str))]))) := fun b o e => by
              rw [upd_ne (ne_of_none e hpw0), upd_ne (ne_of_none e hpf0), upd_ne (ne_of_none e hn0)]
              exact s9 b o e
            generalize L2.upd (L2.upd (L2.upd H9 pn (.dT (dtab (found ++ [Mon.comp x g])))) pf (.lst (as.map V.ref ++ [.ref N]))) pw (.lst ((Mon.wordTab m).map wv ++ [.str (ws wd' ++ (⟨#[97 + c]⟩ : Str))])) = H12 at L12 hN12 s12 ⊢
            have hv2 : valV (dtab (found ++ [Mon.comp x g])) (kt (Mon.comp x g)) = some (nv found.length) := by
              have := dtabF_some (k := 0) (i := found.length) B2.nd (by rw [List.getElem?_append_right (Nat.le_refl _), Nat.sub_self]; rfl)
              rwa [Nat.zero_add] at this
            refine ⟨_, rfl, _, rfl, pt, _, _, .ref pr, rfl, rfl, SqL.of L12.t, atI_nat tat, .inl ⟨rfl, _, SqL.of (hRr L12)⟩, _, rfl, _, rfl, pn, nv found.length, rfl, hv2 ▸ DGet.t L12.d hN12, pr, row.map nv, _, rfl, rfl, hRr L12, rl, _, _, rfl, fun b o e => ?_, as ++ [N], _, _, row ++ [found.length], ?_, B2, by rw [List.length_append]; omega⟩
            · rw [upd_ne (ne_of_none e nr0)]
              exact s12 b o e
            · have := L12.chg nb (r' := row ++ [found.length])
              rw [List.map_append] at this
              exact this
      · rintro σ Hc ⟨v7, v8, rfl, sc, as, found, m, row, L, B, il⟩
        have fw := few B
        obtain ⟨x, hx⟩ := lt_get il
        refine ⟨_, rfl, _, _, rfl, rfl, 300 - (i + 1), by omega, i + 1, v7, v8, by omega, rfl, sc, as, bs ++ [pr], found, rows ++ [row], m, L, B.next gl.symm (by omega) hx, fun b hb => ?_⟩
        rcases List.mem_append.mp hb with z | z
        · exact fr b z
        · rw [List.mem_singleton.mp z]
          exact nr0
    · rw [decide_eq_false (show ¬ ((i : Nat) : Int) < ((found.length : Nat) : Int) by omega)]
      refine ifF rfl ?_
      refine ⟨_, rfl, _, rfl, _, rfl, (by show 3 ≤ sizeLine; decide), fun T nT => ?_⟩
      obtain ⟨Tb, hm, lm⟩ := B.tab (by omega)
      have u := same_upd (o := .tup [.ref pf, .ref pw, .ref pt]) nT
      exact k T pf pw pt pn as bs found rows m _ (sn.trans u) (nil_of sn nT) upd_same (L.same u) (hn ▸ Tb) hm lm ⟨hpf0, hpw0, hpt0, fr⟩
end
end K67

set_option Elab.async false
set_option linter.all false
set_option maxRecDepth 100000
set_option maxHeartbeats 8000000
namespace K67
open PySem PySem.Spec PyProof.Rows L2 Lf
def spPick : Sp := fun vs H Q _ => ∃ (l s : Addr) (n : Nat) (xs : List V), vs = [.ref l, .ref s] ∧ Src H l n ∧ n ≤ 1000000 ∧ H s = some (.lst xs) ∧ s ≠ l ∧ 1 ≤ xs.length ∧ xs.length ≤ 1000 ∧ ∀ x H', x ∈ xs → But l H H' → Src H' l (n + 1) → Q x H'
/-- all but two things stay -/
def But2 (l D : Addr) (H H' : Hp) : Prop := ∀ b o, b ≠ l → b ≠ D → H b = some o → H' b = some o
theorem But2.trans {l D : Addr} {H H1 H2 : Hp} (a : But2 l D H H1) (b : But2 l D H1 H2) : But2 l D H H2 := fun c o h1 h2 h3 => b c o h1 h2 (a c o h1 h2 h3)
theorem But2.ofL {l D : Addr} {H H1 : Hp} (a : But l H H1) : But2 l D H H1 := fun c o h1 _ h3 => a c o h1 h3
theorem But2.ofD {l D : Addr} {H H1 : Hp} (a : But D H H1) : But2 l D H H1 := fun c o _ h2 h3 => a c o h2 h3
theorem But2.done {l D : Addr} {H H1 : Hp} (a : But2 l D H H1) (n : H D = none) : But l H H1 := fun c o h1 h3 => a c o h1 (fun z => by rw [z, n] at h3; cases h3) h3
theorem seq_join {t u : TS} {Ds : Ends} {σ : L2.St} {H : Hp} (M : L2.St → Hp → Prop) (k : ∀ σ' H', M σ' H' → u Ds σ' H') (h : ∀ nx : L2.St → Hp → Prop, (∀ σ' H', M σ' H' → nx σ' H') → t { Ds with nx := nx } σ H) : tSeq t u Ds σ H := h (u Ds) k
/-- what one letter does, as a list -/
def Col (H : Hp) (l p : Addr) (g : List Nat) (many : Nat) : Prop := p ≠ l ∧ H p = some (.lst (g.map nv)) ∧ Mon.Valid many g
theorem Col.but {H H' : Hp} {l p : Addr} {g : List Nat} {many : Nat} (h : Col H l p g many) (b : But l H H') : Col H' l p g many := ⟨h.1, b _ _ h.1 h.2.1, h.2.2⟩
abbrev teDr : TE := fun σ H Q => (tCons (tVar 0) (tCons (tVar 1) tNil)) σ H fun vs H1 => spDraw vs H1 Q E0
abbrev teDrL (K : PySem.W.Frag) : TE := fun σ H Q => (tCons (tVar 0) (tCons (tCB (rLenS K) (tCons (tVar 7) tNil)) tNil)) σ H fun vs H1 => spDraw vs H1 Q E0
abbrev tePop (K : PySem.W.Frag) : TE := tBM K "list" rPopAt (tVar 7) (tCons (teDrL K) tNil)
abbrev rMax : List V → Hp → VK → Prop := fun xs H Q => ∃ i j, xs = [.int i, .int j] ∧ Q (.int (if j > i then j else i)) H
abbrev teMax : TE := tCB rMax (tCons (tVar 8) (tCons (tVar 9) tNil))
section
variable {l : Addr} {n many : Nat} {v2 v3 v4 v5 v6 v7 : Option V} {H : Hp} {Q : VK}
theorem erase_map {α β : Type} {f : α → β} : ∀ {l : List α} {k : Nat}, (l.map f).eraseIdx k = (l.eraseIdx k).map f
  | [], _ => rfl
  | x :: r, 0 => rfl
  | x :: r, k + 1 => by rw [List.map_cons, List.eraseIdx_cons_succ, List.eraseIdx_cons_succ, List.map_cons, erase_map]
theorem valid_snoc {many y : Nat} {g : List Nat} (h : ∀ i ∈ g, i < many) (hy : y < many) : ∀ i ∈ g ++ [y], i < many := fun i hi => by
  rcases List.mem_append.mp hi with z | z
  · exact h i z
  · rw [List.mem_singleton.mp z]; exact hy
theorem col_e (src : Src H l n) (n1 : n + many ≤ 1000000) (m1 : 1 ≤ many) (m9 : many ≤ 9) (fin : ∀ p g H', But l H H' → Src H' l (n + many) → H p = none → Col H' l p g many → Q (.ref p) H') :
    tLc (iRng1 (tCons (tVar 1) tNil)) (gName 8) tYes teDr [8] [some (.ref l), some (.int (many : Nat)), v2, v3, v4, v5, v6, v7, none, none] H Q := by
  refine ⟨_, rfl, (many : Nat), rfl, by omega, by omega, fun D nD => ?_⟩
  have nDl := src.ne nD
  refine lc_range (lo := 0) (n := many) (fun i Hc => But2 l D H Hc ∧ Src Hc l (n + i) ∧ ∃ g : List Nat, Hc D = some (.lst (g.map nv)) ∧ g.length = i ∧ ∀ e ∈ g, e < many) ⟨But2.ofD But.upd, src.upd nDl, [], upd_same, rfl, fun _ h => by simp at h⟩ (fun i Hc hi ⟨bt, sc, g, hD, lg, ag⟩ => ?_) (fun Hc ⟨bt, sc, g, hD, lg, ag⟩ => ?_)
  · refine ⟨rfl, yesT ?_⟩
    refine ⟨_, rfl, _, rfl, l, n + i, (many : Nat), rfl, sc, by omega, by omega, by omega, fun y H' y0 y1 b' src' => ?_⟩
    obtain ⟨y, rfl⟩ : ∃ j : Nat, y = (j : Nat) := ⟨y.toNat, by omega⟩
    refine ⟨_, b' _ _ nDl hD, by rw [List.length_map, lg]; show i < 16777216; omega, (bt.trans (But2.ofL b')).trans (But2.ofD But.upd), src'.upd nDl, g ++ [y], by rw [upd_same, List.map_append]; rfl, by rw [List.length_append, lg]; rfl, valid_snoc ag (by omega)⟩
  · exact fin D g Hc (bt.done nD) sc nD ⟨nDl, hD, lg, ag⟩
theorem max_e {K : PySem.W.Frag} {p : Addr} {g : List Nat} (col : Col H l p g many) (m9 : many ≤ 9) (src : Src H l n) (fin : ∀ q h H', Same H H' → H q = none → Col H' l q h many → Q (.ref q) H') :
    tLc (iEnumA K (tVar 6)) (gTup K 2 (gCons (gName 8) (gCons (gName 9) gNil))) tYes teMax [8, 9] [some (.ref l), some (.int (many : Nat)), v2, v3, v4, v5, some (.ref p), v7, none, none] H Q := by
  obtain ⟨npl, hp, lg, ag⟩ := col
  refine ⟨_, rfl, p, _, rfl, .inl ⟨SqL.of hp, fun D nD => ?_⟩⟩
  have nDl := src.ne nD
  refine lc_it (walk_enumL (K := K) (a := p) (xs := g.map nv)) (fun i Hc => But D H Hc ∧ ∃ h : List Nat, Hc D = some (.lst (h.map nv)) ∧ h.length = i ∧ ∀ e ∈ h, e < many) ⟨But.upd, [], upd_same, rfl, fun _ h => by simp at h⟩ (fun i Hc _ ⟨bt, _⟩ => SqL.of (Same.but (L2.Same.refl _) nD bt _ _ hp)) (fun i y Hc H' hi ⟨bt, h, hD, lh, ah⟩ yl => ?_) (fun Hc ⟨bt, h, hD, lh, ah⟩ => ?_)
  · obtain ⟨T, x, rfl, nT, rfl, hx⟩ := yl
    obtain ⟨k, hk, rfl⟩ := map_get hx
    have km := ag k (List.mem_of_getElem? hk)
    have im : i < many := by have := get_lt hk; omega
    have nTD : D ≠ T := fun z => by rw [z, nT] at hD; cases hD
    refine ⟨T, _, rfl, SqT.of upd_same, rfl, _, _, rfl, _, _, rfl, rfl, rfl, yesT ?_⟩
    refine ⟨_, rfl, _, rfl, _, _, rfl, ?_⟩
    have e : (if ((k : Nat) : Int) > ((i : Nat) : Int) then V.int (k : Nat) else V.int (i : Nat)) = nv (if k > i then k else i) := by
      by_cases z : k > i
      · rw [if_pos z, if_pos (by omega)]
      · rw [if_neg z, if_neg (by omega)]
    have e2 : V.int (if ((k : Nat) : Int) > ((i : Nat) : Int) then ((k : Nat) : Int) else ((i : Nat) : Int)) = nv (if k > i then k else i) := by
      by_cases z : k > i
      · rw [if_pos z, if_pos (by omega)]
      · rw [if_neg z, if_neg (by omega)]
    rw [e2]
    refine ⟨h.map nv, by rw [upd_ne nTD]; exact hD, by rw [List.length_map, lh]; show i < 16777216; omega, (bt.trans (But.of (same_upd nT))).trans But.upd, h ++ [if k > i then k else i], by rw [upd_same, List.map_append]; rfl, by rw [List.length_append, lh]; rfl, valid_snoc ah (by split <;> omega)⟩
  · rw [List.length_map, lg] at lh
    exact fin D h Hc (Same.but (L2.Same.refl _) nD bt) nD ⟨nDl, hD, lh, ah⟩
/-- a new order of all -/
theorem pop_e {K : PySem.W.Frag} {p : Addr} (src : Src H l n) (n1 : n + many ≤ 1000000) (m1 : 1 ≤ many) (m9 : many ≤ 9) (np : p ≠ l) (hp : H p = some (.lst ((Mon.idm many).map nv))) (fin : ∀ q h H', But2 l p H H' → Src H' l (n + many) → H q = none → Col H' l q h many → Q (.ref q) H') :
    tLc (iRng1 (tCons (tVar 1) tNil)) (gName 8) tYes (tePop K) [8] [some (.ref l), some (.int (many : Nat)), v2, v3, v4, v5, v6, some (.ref p), none, none] H Q := by
  refine ⟨_, rfl, (many : Nat), rfl, by omega, by omega, fun D nD => ?_⟩
  have nDl := src.ne nD
  have nDp : D ≠ p := fun z => by rw [z, hp] at nD; cases nD
  refine lc_range (lo := 0) (n := many) (fun i Hc => (∀ b o, b ≠ l → b ≠ D → b ≠ p → H b = some o → Hc b = some o) ∧ Src Hc l (n + i) ∧ ∃ N L : List Nat, N.length = i ∧ i + L.length = many ∧ (∀ e ∈ N, e < many) ∧ (∀ e ∈ L, e < many) ∧ Hc D = some (.lst (N.map nv)) ∧ Hc p = some (.lst (L.map nv)))
    ⟨fun b o _ nb _ e => by rw [upd_ne nb]; exact e, src.upd nDl, [], Mon.idm many, rfl, by rw [Nat.zero_add]; exact Mon.idm_valid.1, fun _ h => by simp at h, Mon.idm_valid.2, upd_same, by rw [upd_ne nDp.symm]; exact hp⟩ (fun i Hc hi ⟨bc, sc, N, L, lN, lL, aN, aL, hD, hL⟩ => ?_) (fun Hc ⟨bc, sc, N, L, lN, lL, aN, aL, hD, hL⟩ => ?_)
  · refine ⟨rfl, yesT ?_⟩
    refine ⟨_, rfl, .inl ⟨rfl, _, SqL.of hL⟩, _, rfl, _, rfl, p, _, rfl, .inl (SqL.of hL), l, n + i, _, rfl, sc, by omega, by rw [List.length_map]; omega, by rw [List.length_map]; omega, fun k H2 k0 k1 b2 src2 => ?_⟩
    rw [List.length_map] at k1
    obtain ⟨k, rfl⟩ : ∃ k' : Nat, k = (k' : Nat) := ⟨k.toNat, by omega⟩
    have hk : k < L.length := by omega
    obtain ⟨y, hy⟩ := lt_get hk
    refine ⟨p, _, _, k, nv y, rfl, rfl, b2 _ _ np hL, by omega, by omega, ?_, get_map hy, ?_⟩
    · rw [List.length_map, seqIndex_of (by omega) (by omega)]
      rfl
    rw [erase_map]
    have hD2 : L2.upd H2 p (.lst ((L.eraseIdx k).map nv)) D = some (.lst (N.map nv)) := by rw [upd_ne nDp]; exact b2 _ _ nDl hD
    refine ⟨_, hD2, by rw [List.length_map]; show N.length < 16777216; omega, fun b o n1 n2 n3 e => ?_, (src2.upd np).upd nDl, N ++ [y], L.eraseIdx k, by rw [List.length_append, lN]; rfl, ?_, valid_snoc aN (aL y (List.mem_of_getElem? hy)), fun e he => aL e (List.mem_of_mem_eraseIdx he), by rw [upd_same, List.map_append]; rfl, by rw [upd_ne nDp.symm]; exact upd_same⟩
    · rw [upd_ne n2, upd_ne n3]
      exact b2 _ _ n1 (bc b o n1 n2 n3 e)
    · rw [List.length_eraseIdx, if_pos hk]
      omega
  · exact fin D N Hc (fun b o n1 n2 e => bc b o n1 (fun z => by rw [z, nD] at e; cases e) n2 e) sc nD ⟨nDl, hD, lN, aN⟩
end
section
variable {P : Program} {w : World} {K : PySem.W.Frag} {mg : Str → Option Value} {base : Heap}
theorem scPick : FnScope ["_law_source_here", "_law_some"] ["_law_source_here", "_law_some"] (defScope s_L_pick) := ⟨rfl, rfl, rfl, by decide +kernel, rfl, by decide +kernel, by decide +kernel⟩
theorem ok_pick {f : Addr} {fd : FuncData} {q : Str} (F : FunD K "_law_pick" q (defArgs s_L_pick) (defBody s_L_pick) (defScope s_L_pick) [] [] f fd) (zn : mg "len" = none) (DD : Def P w K mg base CX0 1 "_law_draw" ["_law_source_here", "_law_many"] spDraw) :
    FnOk P w K mg base CX0 2 f fd ["_law_source_here", "_law_some"] spPick := by
  refine F.ok scPick (fun vs H Q E h => ?_) (fun cdv A outer s H vs Q E hr h => ?_)
  · obtain ⟨l, s, n, xs, rfl, _⟩ := h
    rfl
  · obtain ⟨l, s, n, xs, rfl, src, n1, hs, ne, l1, l2, k⟩ := h
    refine ⟨_, PSs.nox (pss_one (ps_ret (pe_ix ix_list (pv 1) (pe_def DD hr pass0 rfl (pa_cons (pv 0) (pa_cons (pe_callB call_len_seq rfl zn boot_len (pa_cons (pv 1) pa_nil)) pa_nil))) (fun _ _ => rfl)))), ?_⟩
    refine ⟨_, rfl, _, rfl, _, rfl, s, xs, rfl, .inl (SqL.of hs), l, n, xs.length, rfl, src, n1, by omega, by omega, fun i H' i0 i1 b src' => ?_⟩
    obtain ⟨j, rfl⟩ : ∃ j : Nat, i = (j : Nat) := ⟨i.toNat, by omega⟩
    have hj : j < xs.length := by omega
    refine ⟨s, xs, (j : Nat), xs[j], rfl, rfl, SqL.of (b _ _ ne hs), atI_nat (List.getElem?_eq_getElem hj), ?_⟩
    exact k _ _ (List.getElem_mem hj) b src'
end
end K67

set_option Elab.async false
set_option linter.all false
set_option maxRecDepth 100000
set_option maxHeartbeats 8000000
namespace K67
open PySem PySem.Spec PyProof.Rows L2 Lf
theorem seq_asg {te : TE} {i : Nat} {u : TS} {Ds : Ends} {σ : L2.St} {H : Hp} (h : te σ H fun x H1 => gName i x σ H1 fun σ2 H2 => u Ds σ2 H2) : tSeq (tAsg te (gName i)) u Ds σ H := h
theorem rep2 {n : Nat} {x : V} : (List.replicate n [x]).flatten = List.replicate n x := by
  induction n with
  | zero => rfl
  | succ n ih => rw [List.replicate_succ, List.flatten_cons, ih, List.replicate_succ]; rfl
/-- the columns found so far -/
def Cols (H : Hp) (l pc : Addr) (many c : Nat) : Prop := pc ≠ l ∧ ∃ (ps : List Addr) (gs : List (List Nat)), H pc = some (.lst (ps.map V.ref)) ∧ ps.length = c ∧ gs.length = c ∧ ∀ (j : Nat) p g, ps[j]? = some p → gs[j]? = some g → Col H l p g many ∧ p ≠ pc
theorem Cols.but {H H' : Hp} {l pc : Addr} {many c : Nat} (h : Cols H l pc many c) (b : But l H H') : Cols H' l pc many c := by
  obtain ⟨n, ps, gs, h1, h2, h3, h4⟩ := h
  exact ⟨n, ps, gs, b _ _ n h1, h2, h3, fun j p g e1 e2 => ⟨(h4 j p g e1 e2).1.but b, (h4 j p g e1 e2).2⟩⟩
theorem Cols.pc {H : Hp} {l pc : Addr} {many c : Nat} (h : Cols H l pc many c) {q : Addr} (n : H q = none) : q ≠ pc := fun z => by
  obtain ⟨_, ps, gs, h1, _⟩ := h
  rw [z, h1] at n
  cases n
def rowOf (gs : List (List Nat)) (s : Nat) : List Nat := gs.map fun g => g.getD s 0
abbrev NMv : List Str := ["_law_source_here", "_law_many", "_law_letters", "_law_way", "_law_columns_so", "_law_letter", "_law_goals", "_law_rest", "_law_state", "_law_goal"]
def scMv1 : Scope := { kind := .function, names := [(".0", .local), ("_law_state", .cell), ("_law_columns_so", .cell)], isGenerator := false, isCoroutine := false }
abbrev teCell (K : PySem.W.Frag) : TE := tOp (rIxL K) (tVar 6) (tVar 8)
abbrev teRow (K : PySem.W.Frag) : TE := tLc (iList K (tVar 4)) (gName 6) tYes (teCell K) [6]
def spMoves : Sp := fun vs H Q _ => ∃ l n many wd, vs = [.ref l, .int (many : Nat), .int (wd : Nat)] ∧ Src H l n ∧ n + 100 ≤ 1000000 ∧ 1 ≤ many ∧ many ≤ 9 ∧ 1 ≤ wd ∧ wd ≤ 4 ∧
  ∀ r mv H', But l H H' → H r = none → RowsH H' l r mv → FormM mv wd → mv.length = many → Src H' l (n + 100) → Q (.ref r) H'
section
variable {K : PySem.W.Frag} {l pc : Addr} {n many wd : Nat} {v2 v3 v5 v6 v7 : Option V} {H : Hp} {Q : VK}
/-- row by row -/
theorem turn_e (C : Cols H l pc many wd) (src : Src H l n) (m1 : 1 ≤ many) (m9 : many ≤ 9) (w1 : 1 ≤ wd) (w4 : wd ≤ 4) (fin : ∀ r mv H', Same H H' → H r = none → RowsH H' l r mv → FormM mv wd → mv.length = many → Q (.ref r) H') :
    tLc (iRng1 (tCons (tVar 1) tNil)) (gName 8) tYes (teRow K) [8] [some (.ref l), some (.int (many : Nat)), v2, v3, some (.ref pc), v5, v6, v7, none, none] H Q := by
  obtain ⟨npc, ps, gs, hpc, lp, lg, cg⟩ := C
  refine ⟨_, rfl, (many : Nat), rfl, by omega, by omega, fun D nD => ?_⟩
  have nDl := src.ne nD
  refine lc_range (lo := 0) (n := many) (fun i Hc => But D H Hc ∧ ∃ us : List Addr, Hc D = some (.lst (us.map V.ref)) ∧ us.length = i ∧ ∀ (j : Nat) u, us[j]? = some u → u ≠ l ∧ u ≠ D ∧ Hc u = some (.lst ((rowOf gs j).map nv))) ⟨But.upd, [], upd_same, rfl, fun j u h => by simp at h⟩ (fun i Hc hi ⟨bt, us, hD, lu, au⟩ => ?_) (fun Hc ⟨bt, us, hD, lu, au⟩ => ?_)
  · have ei : (0 : Int) + (i : Nat) = (i : Nat) := by omega
    have sD := Same.but (L2.Same.refl _) nD bt
    refine ⟨rfl, yesT ?_⟩
    rw [ei]
    refine ⟨_, rfl, pc, rfl, ⟨_, SqL.of (sD _ _ hpc)⟩, fun B nB => ?_⟩
    have nBl := (src.same sD).ne nB
    have nBD : B ≠ D := fun z => by rw [z, hD] at nB; cases nB
    refine lc_list (K := K) (a := pc) (xs := ps.map V.ref) (fun c He => But B Hc He ∧ He B = some (.lst (((gs.take c).map fun g => g.getD i 0).map nv))) ⟨But.upd, upd_same⟩ (fun c He _ ⟨be, _⟩ => SqL.of (Same.but (L2.Same.refl _) nB be _ _ (sD _ _ hpc))) (fun c z He hz ⟨be, hB⟩ => ?_) (fun He ⟨be, hB⟩ => ?_)
    · obtain ⟨p, hp, rfl⟩ := map_get hz
      obtain ⟨g, hg⟩ := lt_get (show c < gs.length by rw [lg, ← lp]; exact get_lt hp)
      obtain ⟨⟨c1, c2, c3, c4⟩, _⟩ := cg c p g hp hg
      obtain ⟨e, he⟩ := lt_get (show i < g.length by omega)
      have sB := sD.trans (Same.but (L2.Same.refl _) nB be)
      refine ⟨rfl, yesT ?_⟩
      refine ⟨_, rfl, _, rfl, p, _, _, nv e, rfl, rfl, SqL.of (sB _ _ c2), atI_nat (get_map he), ?_⟩
      refine ⟨_, hB, ?_, But.trans be But.upd, ?_⟩
      · rw [List.length_map, List.length_map, List.length_take]
        have := get_lt hp
        show min c gs.length < 16777216
        omega
      · rw [upd_same, take_snoc hg, List.map_append, List.map_append, List.map_cons, List.map_nil, List.map_cons, List.map_nil, Mon.getD_of he]
    · rw [List.length_map, lp, ← lg, List.take_length] at hB
      have sB := Same.but (L2.Same.refl _) nB be
      refine ⟨_, sB _ _ hD, by rw [List.length_map, lu]; show i < 16777216; omega, (bt.trans (But.of sB)).trans But.upd, us ++ [B], by rw [upd_same, List.map_append]; rfl, by rw [List.length_append, lu]; rfl, fun j u hu => ?_⟩
      rcases Mon.snoc_cases hu with hu | ⟨rfl, rfl⟩
      · obtain ⟨a1, a2, a3⟩ := au j u hu
        exact ⟨a1, a2, by rw [upd_ne a2]; exact sB _ _ a3⟩
      · refine ⟨nBl, nBD, ?_⟩
        rw [upd_ne nBD, lu]
        exact hB
  · refine fin D ((List.range many).map (rowOf gs)) Hc (Same.but (L2.Same.refl _) nD bt) nD ⟨nDl, us, hD, by rw [List.length_map, List.length_range, lu], fun j u row hu hr => ?_⟩ ⟨by rw [List.length_map, List.length_range]; exact m1, w1, w4, fun row hr => ?_⟩ (by rw [List.length_map, List.length_range])
    · obtain ⟨a1, a2, a3⟩ := au j u hu
      have jm : j < many := by rw [← lu]; exact get_lt hu
      rw [List.getElem?_map, List.getElem?_range jm] at hr
      cases hr
      exact ⟨a1, a3⟩
    · obtain ⟨s, hs, rfl⟩ := List.mem_map.mp hr
      refine ⟨by unfold rowOf; rw [List.length_map, lg], fun t ht => ?_⟩
      rw [List.length_map, List.length_range]
      obtain ⟨g, hg, rfl⟩ := List.mem_map.mp ht
      obtain ⟨j, hj⟩ := List.getElem?_of_mem hg
      obtain ⟨p, hp⟩ := lt_get (show j < ps.length by rw [lp, ← lg]; exact get_lt hj)
      obtain ⟨⟨c1, c2, c3, c4⟩, _⟩ := cg j p g hp hj
      have : s < g.length := by rw [c3]; exact List.mem_range.mp hs
      rw [Mon.getD_at this]
      exact c4 _ (List.getElem_mem this)
end
section
variable {P : Program} {w : World} {K : PySem.W.Frag} {mg : Str → Option Value} {base : Heap}
theorem scMoves : FnScope NMv ["_law_source_here", "_law_many", "_law_letters"] (defScope s_L_moves) := ⟨rfl, rfl, rfl, by decide +kernel, rfl, by decide +kernel, by decide +kernel⟩
theorem ok_moves {f : Addr} {fd : FuncData} {q : Str} (F : FunD K "_law_moves" q (defArgs s_L_moves) (defBody s_L_moves) (defScope s_L_moves) [] [] f fd) (zr : mg "range" = none) (zn : mg "len" = none) (zl : mg "list" = none) (zm : mg "max" = none) (zs : mg "sorted" = none) (zE : mg "enumerate" = none)
    (DD : Def P w K mg base CX0 1 "_law_draw" ["_law_source_here", "_law_many"] spDraw) (DP : Def P w K mg base CX0 2 "_law_pick" ["_law_source_here", "_law_some"] spPick) :
    FnOk P w K mg base CX0 3 f fd ["_law_source_here", "_law_many", "_law_letters"] spMoves := by
  refine F.ok scMoves (fun vs H Q E h => ?_) (fun cdv A outer s H vs Q E hr h => ?_)
  · obtain ⟨l, n, many, wd, rfl, _⟩ := h
    rfl
  · obtain ⟨l, n, many, wd, rfl, src, n1, m1, m9, w1, w4, k⟩ := h
    have r1 : Room 1 _ := hr.mono (by decide)
    refine ⟨_, PSs.nox (pss_cons (ps_asg (pe_tup (pa_cons (pe_def DD r1 pass0 rfl (pa_cons (pv 0) (pa_cons pe_int pa_nil))) (pa_cons (pe_lst pa_nil) pa_nil))) (pg_tup rfl (pgs_cons (pg_name (i := 3) scMoves.nd rfl (.inl rfl)) (pgs_cons (pg_name (i := 4) scMoves.nd rfl (.inr rfl)) pgs_nil))))
      (pss_cons (ps_for PassesOwn.never rfl (pi_range1 rfl zr (pa_cons (pv 2) pa_nil)) (pg_name (i := 5) scMoves.nd rfl (.inl rfl))
        (pss_cons (ps_setLc (i := 6) (own := [("_law_state", 8)]) (g := gName 8) (te := teDr) rfl scMoves.nd rfl rfl (by rfl) (pi_range1 rfl zr (pa_cons (pv 1) pa_nil)) (blkOk_by (own := [("_law_state", 8)]) (N := NMv) (sc := defScope s_L_moves) (by decide +kernel)) (fun _ _ _ _ _ => pg_name (i := 8) scMoves.nd rfl (Or.inl rfl)) (fun _ _ _ _ _ => pts_nil)
          (fun _ _ _ _ _ => by exact pe_def DD r1 pass0 rfl (pa_cons (pv 0) (pa_cons (pv 1) pa_nil))))
        (pss_cons (ps_if (pt_cmpR op_eq (pv 3) pe_int (nomark _))
          (pss_one (ps_setLc (i := 6) (own := [("_law_state", 8), ("_law_goal", 9)]) (g := gTup K 2 (gCons (gName 8) (gCons (gName 9) gNil))) (te := teMax) rfl scMoves.nd rfl rfl (by rfl) (pi_enumA rfl zE (pv 6)) (blkOk_by (own := [("_law_state", 8), ("_law_goal", 9)]) (N := NMv) (sc := defScope s_L_moves) (by decide +kernel)) (fun _ _ _ _ _ => by exact pg_tup rfl (pgs_cons (pg_name (i := 8) scMoves.nd rfl (Or.inl rfl)) (pgs_cons (pg_name (i := 9) scMoves.nd rfl (Or.inl rfl)) pgs_nil))) (fun _ _ _ _ _ => pts_nil)
            (fun _ _ _ _ _ => by exact pe_callB (call_max2 rfl) rfl zm boot_max (pa_cons (pv 8) (pa_cons (pv 9) pa_nil)))))
          (pss_one (ps_if (pt_cmpR op_eq (pv 3) pe_int (nomark _))
            (pss_one (ps_set (i := 6) scMoves.nd rfl (.inl rfl) (pe_callB cr_sortedI rfl zs boot_sorted (pa_cons (pv 6) pa_nil))))
            (pss_one (ps_if (pt_cmpR op_eq (pv 3) pe_int (nomark _))
              (pss_cons (ps_set (i := 7) scMoves.nd rfl (.inr rfl) (pe_listRg rfl rfl zl (prg_1 rfl zr (pv 1))))
              (pss_one (ps_setLc (i := 6) (own := [("_law_state", 8)]) (g := gName 8) (te := tePop K) rfl scMoves.nd rfl rfl (by rfl) (pi_range1 rfl zr (pa_cons (pv 1) pa_nil)) (blkOk_by (own := [("_law_state", 8)]) (N := NMv) (sc := defScope s_L_moves) (by decide +kernel)) (fun _ _ _ _ _ => pg_name (i := 8) scMoves.nd rfl (Or.inl rfl)) (fun _ _ _ _ _ => pts_nil)
                (fun _ _ _ _ _ => by exact pe_bm PySem.F.plainAttrs_list PySem.F.slot_list_pop PySem.F.type_list_pop mt_popAt (pv 7) (pa_cons (pe_def DD r1 pass0 rfl (pa_cons (pv 0) (pa_cons (pe_callB call_len_seq rfl zn boot_len (pa_cons (pv 7) pa_nil)) pa_nil))) pa_nil)))))
              (pss_one (ps_if (pt_cmpR op_eq (pv 3) pe_int (nomark _))
                (pss_one (ps_set (i := 6) scMoves.nd rfl (.inl rfl) (pe_def DP (hr.mono (by decide)) pass0 rfl (pa_cons (pv 0) (pa_cons (pe_lst (pa_cons (pe_listRg rfl rfl zl (prg_1 rfl zr (pv 1))) (pa_cons (pe_op op_rep (pe_lst (pa_cons (pe_ix ix_list (pv 6) pe_int (fun _ _ => rfl)) pa_nil)) (pv 1)) (pa_cons (pv 6) pa_nil)))) pa_nil)))))
                pss_nil)))))))
        (pss_one (ps_expr (pe_bm PySem.F.plainAttrs_list PySem.F.slot_list_append PySem.F.type_list_append mt_append (pv 4) (pa_cons (pv 6) pa_nil)))))))
      (pss_one (ps_ret (pe_lc (own := [("_law_state", 8)]) (g := gName 8) (te := teRow K) (by rfl) scMoves.nd (pi_range1 rfl zr (pa_cons (pv 1) pa_nil)) (blkOk_by (own := [("_law_state", 8)]) (N := NMv) (sc := defScope s_L_moves) (by decide +kernel)) (fun _ _ _ _ _ => pg_name (i := 8) scMoves.nd rfl (Or.inr rfl)) (fun _ _ _ _ _ => pts_nil)
        (fun _ _ _ _ _ => by
          refine pe_lc (own := [("_law_goals", 6)]) (g := gName 6) (by rfl) scMoves.nd (pi_list (pv 4)) (blkOk_by (own := [("_law_goals", 6)]) (N := NMv) (sc := scMv1) (by decide +kernel)) (fun _ _ _ _ _ => ?_) (fun _ _ _ _ _ => pts_nil) (fun _ _ _ _ _ => ?_)
          · exact pg_name (i := 6) scMoves.nd rfl (Or.inl rfl)
          · exact pe_ix ix_list (pv 6) (pv 8) (fun _ _ => rfl))))))), ?_⟩
    refine ⟨_, rfl, l, n, 6, rfl, src, by omega, by omega, by omega, fun way H1 y0 y1 b1 src1 => ⟨(by show 0 ≤ sizeLine; decide), fun pc npc => ⟨(by show 2 ≤ sizeLine; decide), fun T nT => ⟨T, _, rfl, SqT.of upd_same, rfl, _, _, rfl, _, _, rfl, rfl, ?_⟩⟩⟩⟩
    have npl := src1.ne npc
    have s1 := same_upd (o := .lst []) npc
    have b2 := b1.trans (But.of s1)
    have src2 := src1.same s1
    have hc2 : L2.upd H1 pc (.lst []) pc = some (.lst (([] : List Addr).map V.ref)) := upd_same
    have hpc0 : H pc = none := Lf.But.nil b1 npl npc
    generalize L2.upd H1 pc (.lst []) = H2 at b2 src2 hc2 nT ⊢
    have s3 := same_upd (o := .tup [.int way, .ref pc]) nT
    have b3 := b2.trans (But.of s3)
    have src3 := src2.same s3
    have C3 : Cols (L2.upd H2 T (.tup [.int way, .ref pc])) l pc many 0 := ⟨npl, [], [], s3 _ _ hc2, rfl, rfl, fun j p g h => by simp at h⟩
    generalize L2.upd H2 T (.tup [.int way, .ref pc]) = H3 at b3 src3 C3 ⊢
    clear s1 b1 src1 b2 src2 hc2 nT s3 npc
    refine ⟨_, rfl, (wd : Nat), rfl, by omega, by omega, ?_⟩
    refine for_range (lo := 0) (n := wd) (fun c σ Hc => ∃ v5 v6 v7 : Option V, σ = [some (.ref l), some (.int (many : Nat)), some (.int (wd : Nat)), some (.int way), some (.ref pc), v5, v6, v7, none, none] ∧ But l H Hc ∧ Src Hc l (n + 1 + 20 * c) ∧ Cols Hc l pc many c) ⟨none, none, none, rfl, b3, src3, C3⟩ ?_ ?_
    · rintro c σ Hc hc ⟨v5, v6, v7, rfl, bc, sc, C⟩
      refine seq_asg (col_e sc (by omega) m1 m9 fun p g H4 b4 src4 np0 col => ?_)
      have bc4 := bc.trans b4
      have C4 := C.but b4
      have npp : p ≠ pc := C.pc np0
      show tSeq _ _ _ [some (.ref l), some (.int (many : Nat)), some (.int (wd : Nat)), some (.int way), some (.ref pc), some (.int (0 + (c : Nat))), some (.ref p), v7, none, none] H4
      refine seq_join (fun σ' H' => ∃ (v7 : Option V) (q : Addr) (g : List Nat), σ' = [some (.ref l), some (.int (many : Nat)), some (.int (wd : Nat)), some (.int way), some (.ref pc), some (.int (0 + (c : Nat))), some (.ref q), v7, none, none] ∧ But l H4 H' ∧ Src H' l (n + 1 + 20 * c + 18) ∧ Col H' l q g many ∧ q ≠ pc) ?_ ?_
      · rintro σ' H' ⟨v7, q, g, rfl, b5, src5, col5, nq⟩
        obtain ⟨_, ps, gs, hpc, lp, lg, cg⟩ := C4.but b5
        refine ⟨_, rfl, .inl ⟨rfl, _, SqL.of hpc⟩, _, rfl, pc, ps.map V.ref, _, rfl, rfl, hpc, by rw [List.length_map, lp]; show c < 16777216; omega, _, _, _, rfl, fun b o nb e => ?_, (src5.upd npl).up (by omega), npl, ps ++ [q], gs ++ [g], by rw [upd_same, List.map_append]; rfl, by rw [List.length_append, lp]; rfl, by rw [List.length_append, lg]; rfl, fun j p' g' h1 h2 => ?_⟩
        · rw [upd_ne (ne_of_none e hpc0)]
          exact b5 _ _ nb (bc4 b o nb e)
        · have cu : ∀ {p' g'}, Col H' l p' g' many ∧ p' ≠ pc → Col (L2.upd H' pc (.lst (ps.map V.ref ++ [.ref q]))) l p' g' many ∧ p' ≠ pc := fun z => ⟨⟨z.1.1, by rw [upd_ne z.2]; exact z.1.2.1, z.1.2.2⟩, z.2⟩
          rcases Mon.snoc_cases h1 with h1 | ⟨rfl, rfl⟩
          · rcases Mon.snoc_cases h2 with h2 | ⟨rfl, rfl⟩
            · exact cu (cg j p' g' h1 h2)
            · have := get_lt h1
              omega
          · rcases Mon.snoc_cases h2 with h2 | ⟨_, rfl⟩
            · have := get_lt h2
              omega
            · exact cu ⟨col5, nq⟩
      · intro nx hnx
        obtain ⟨hcp, hcg, hcv⟩ := id col
        refine ⟨_, rfl, rfl, _, rfl, ?_⟩
        refine ite2 (fun _ => ?_) (fun _ => ?_)
        · refine max_e (K := K) col m9 src4 fun q h H' s5 nq col' => ?_
          exact hnx _ _ ⟨v7, q, h, rfl, But.of s5, (src4.same s5).up (by omega), col', C4.pc nq⟩
        refine ⟨_, rfl, rfl, _, rfl, ?_⟩
        refine ite2 (fun _ => ?_) (fun _ => ?_)
        · refine ⟨_, rfl, p, g.map fun i => ((i : Nat) : Int), rfl, SqL.of (by rw [hcg, List.map_map]; rfl), fun ns' q pm pw nq => ?_⟩
          have h0 : ∀ x ∈ ns', ∃ k : Nat, x = (k : Nat) ∧ k < many := fun x hx => by
            obtain ⟨k, hk, rfl⟩ := List.mem_map.mp (pm.mem_iff.mp hx)
            exact ⟨k, rfl, hcv.2 k hk⟩
          have h1 : ns'.map V.int = (ns'.map Int.toNat).map nv := by
            rw [List.map_map]
            refine List.map_congr_left fun x hx => ?_
            obtain ⟨k, rfl, _⟩ := h0 x hx
            rfl
          refine hnx _ _ ⟨v7, q, ns'.map Int.toNat, rfl, But.of (same_upd nq), (src4.upd (src4.ne nq)).up (by omega), ⟨src4.ne nq, by rw [upd_same, h1], by rw [List.length_map, pm.length_eq, List.length_map, hcv.1], fun i hi => ?_⟩, C4.pc nq⟩
          obtain ⟨x, hx, rfl⟩ := List.mem_map.mp hi
          obtain ⟨k, rfl, hk⟩ := h0 x hx
          exact hk
        refine ⟨_, rfl, rfl, _, rfl, ?_⟩
        refine ite2 (fun _ => ?_) (fun _ => ?_)
        · refine ⟨_, rfl, (many : Nat), rfl, ⟨by decide, by decide, by omega, by omega, by omega⟩, fun lf nlf => ?_⟩
          rw [rgV_nv]
          have nfl := src4.ne nlf
          dsimp only [gName, tAsg, List.set, List.map]
          refine pop_e (K := K) (src4.upd nfl) (by omega) m1 m9 nfl upd_same fun q h H' b5 src5 nq col' => ?_
          have b6 : But2 l lf H4 H' := (But2.ofD But.upd).trans b5
          have nq4 : H4 q = none := by
            cases e : H4 q with
            | none => rfl
            | some o =>
              have : q ≠ lf := fun z => by rw [z, nlf] at e; cases e
              rw [upd_ne this, e] at nq
              cases nq
          exact hnx _ _ ⟨_, q, h, rfl, b6.done nlf, src5.up (by omega), col', C4.pc nq4⟩
        refine ⟨_, rfl, rfl, _, rfl, ?_⟩
        refine ite2 (fun _ => ?_) (fun _ => ?_)
        · refine ⟨_, rfl, _, rfl, (many : Nat), rfl, ⟨by decide, by decide, by omega, by omega, by omega⟩, fun q1 nq1 => ?_⟩
          rw [rgV_nv]
          have t1 := same_upd (o := .lst ((Mon.idm many).map nv)) nq1
          have h1 : L2.upd H4 q1 (.lst ((Mon.idm many).map nv)) q1 = some (.lst ((Mon.idm many).map nv)) := upd_same
          generalize L2.upd H4 q1 (.lst ((Mon.idm many).map nv)) = H5 at t1 h1 ⊢
          obtain ⟨g0, hg0⟩ := lt_get (show 0 < g.length by rw [hcv.1]; exact m1)
          have g0m := hcv.2 g0 (List.mem_of_getElem? hg0)
          refine ⟨_, rfl, p, g.map nv, 0, nv g0, rfl, rfl, SqL.of (t1 _ _ hcg), atI_nat (j := 0) (get_map hg0), (by show 1 ≤ sizeLine; decide), fun p0 np0 => ⟨_, rfl, p0, _, _, rfl, rfl, upd_same, by omega, by omega, by rw [Int.toNat_natCast]; show 1 * many ≤ 16777216; omega, fun q2 nq2 => ?_⟩⟩
          rw [Int.toNat_natCast, rep2]
          have t2 := t1.trans ((same_upd np0).trans (same_upd (o := .lst (List.replicate many (nv g0))) nq2))
          have h1' := same_upd (o := .lst (List.replicate many (nv g0))) nq2 _ _ (same_upd (o := .lst [nv g0]) np0 _ _ h1)
          have h2 : L2.upd (L2.upd H5 p0 (.lst [nv g0])) q2 (.lst (List.replicate many (nv g0))) q2 = some (.lst ((List.replicate many g0).map nv)) := by rw [upd_same, List.map_replicate]
          have nq20 : H4 q2 = none := nil_of (t1.trans (same_upd np0)) nq2
          generalize L2.upd (L2.upd H5 p0 (.lst [nv g0])) q2 (.lst (List.replicate many (nv g0))) = H6 at t2 h1' h2 ⊢
          refine ⟨_, rfl, (by show 3 ≤ sizeLine; decide), fun pl npl' => ?_⟩
          have t3 := t2.trans (same_upd (o := .lst [.ref q1, .ref q2, .ref p]) npl')
          have h1'' := same_upd (o := .lst [.ref q1, .ref q2, .ref p]) npl' _ _ h1'
          have h2' := same_upd (o := .lst [.ref q1, .ref q2, .ref p]) npl' _ _ h2
          have h3 : L2.upd H6 pl (.lst [.ref q1, .ref q2, .ref p]) pl = some (.lst [.ref q1, .ref q2, .ref p]) := upd_same
          have npll := (src4.same t2).ne npl'
          generalize L2.upd H6 pl (.lst [.ref q1, .ref q2, .ref p]) = H7 at t3 h1'' h2' h3 ⊢
          refine ⟨l, pl, n + 1 + 20 * c + many, _, rfl, src4.same t3, by omega, h3, npll, (by show 1 ≤ 3; decide), (by show 3 ≤ 1000; decide), fun x H' mx b5 src5 => ?_⟩
          have b6 : But l H4 H' := (But.of t3).trans b5
          have s6 := src5.up (show n + 1 + 20 * c + many + 1 ≤ n + 1 + 20 * c + 18 by omega)
          simp only [List.mem_cons, List.not_mem_nil, or_false] at mx
          rcases mx with rfl | rfl | rfl
          · exact hnx _ _ ⟨v7, q1, _, rfl, b6, s6, ⟨src4.ne nq1, b5 _ _ (src4.ne nq1) h1'', Mon.idm_valid⟩, C4.pc nq1⟩
          · exact hnx _ _ ⟨v7, q2, _, rfl, b6, s6, ⟨src4.ne nq20, b5 _ _ (src4.ne nq20) h2', List.length_replicate, fun i hi => by rw [List.eq_of_mem_replicate hi]; exact g0m⟩, C4.pc nq20⟩
          · exact hnx _ _ ⟨v7, p, g, rfl, b6, s6, col.but b6, npp⟩
        · exact hnx _ _ ⟨v7, p, g, rfl, fun _ _ _ e => e, src4.up (by omega), col, npp⟩
    · rintro σ Hc ⟨v5, v6, v7, rfl, bc, sc, C⟩
      refine turn_e (K := K) C sc m1 m9 w1 w4 fun r mv H' s5 nr R FM lm => ?_
      exact k r mv H' (bc.trans (But.of s5)) (Lf.But.nil bc (sc.ne nr) nr) R FM lm ((sc.same s5).up (by omega))
end
end K67

set_option Elab.async false
set_option linter.all false
set_option maxRecDepth 100000
set_option maxHeartbeats 8000000
namespace K67
open PySem PySem.Spec PyProof.Rows L2 Lf
/-- what _law_plan hands over: moves, the first state, the marked ones -/
structure Plan (H : Hp) (l T r pm : Addr) (mv : List (List Nat)) (wd first : Nat) (mk : List Nat) : Prop where
  t : T ≠ l ∧ H T = some (.tup [.ref r, .int (first : Nat), .ref pm])
  m : RowsH H l r mv
  f : FormM mv wd
  k : pm ≠ l ∧ H pm = some (.lst (mk.map nv))
  a : first < mv.length
  b : ∀ i ∈ mk, i < mv.length
  c : mk.length ≤ 9
  d : mv.length ≤ 9
theorem Plan.but {H H' : Hp} {l T r pm : Addr} {mv : List (List Nat)} {wd first : Nat} {mk : List Nat} (p : Plan H l T r pm mv wd first mk) (b : But l H H') : Plan H' l T r pm mv wd first mk :=
  ⟨⟨p.t.1, b _ _ p.t.1 p.t.2⟩, p.m.but b, p.f, ⟨p.k.1, b _ _ p.k.1 p.k.2⟩, p.a, p.b, p.c, p.d⟩
theorem Plan.same {H H' : Hp} {l T r pm : Addr} {mv : List (List Nat)} {wd first : Nat} {mk : List Nat} (p : Plan H l T r pm mv wd first mk) (b : Same H H') : Plan H' l T r pm mv wd first mk := p.but (But.of b)
def spPlan : Sp := fun vs H Q _ => ∃ l n, vs = [.ref l, .int 9] ∧ Src H l n ∧ n + 200 ≤ 1000000 ∧
  ∀ T r pm mv wd first mk H', But l H H' → H T = none → Plan H' l T r pm mv wd first mk → Src H' l (n + 200) → Q (.ref T) H'
abbrev NPl : List Str := ["_law_source_here", "_law_most", "_law_many", "_law_letters", "_law_moves_here", "_law_marked", "_law_state"]
abbrev ttMk : TT := fun σ H k => (fun σ H Q => (tCons (tVar 0) (tCons (tC (.int 2)) tNil)) σ H fun vs H1 => spDraw vs H1 Q E0) σ H fun x H1 => ∃ b, x = x ∧ k b H1
/-- where a word leads -/
def step (mv : List (List Nat)) (s c : Nat) : Nat := (mv.getD s []).getD c 0
def lead (mv : List (List Nat)) (s : Nat) (x : List Nat) : Nat := x.foldl (step mv) s
theorem step_lt {mv : List (List Nat)} {wd s c : Nat} (F : FormM mv wd) (hs : s < mv.length) (hc : c < wd) : ∃ row, mv[s]? = some row ∧ row[c]? = some (step mv s c) ∧ step mv s c < mv.length := by
  obtain ⟨row, hr⟩ := lt_get hs
  obtain ⟨h1, h2⟩ := F.2.2.2 row (List.mem_of_getElem? hr)
  obtain ⟨e, he⟩ := lt_get (show c < row.length by omega)
  have : step mv s c = e := by
    unfold step
    rw [Mon.getD_of hr, Mon.getD_of he]
  refine ⟨row, hr, by rw [this]; exact he, by rw [this]; exact h2 e (List.mem_of_getElem? he)⟩
theorem lead_lt {mv : List (List Nat)} {wd : Nat} (F : FormM mv wd) : ∀ {x : List Nat} {s : Nat}, s < mv.length → (∀ c ∈ x, c < wd) → lead mv s x < mv.length
  | [], s, hs, _ => hs
  | c :: x, s, hs, hx => by
    show lead mv (step mv s c) x < mv.length
    exact lead_lt F (step_lt F hs (hx c List.mem_cons_self)).choose_spec.2.2 fun d hd => hx d (List.mem_cons_of_mem _ hd)
section
variable {P : Program} {w : World} {K : PySem.W.Frag} {mg : Str → Option Value} {base : Heap}
theorem scPlan : FnScope NPl ["_law_source_here", "_law_most"] (defScope s_L_plan) := ⟨rfl, rfl, rfl, by decide +kernel, rfl, by decide +kernel, by decide +kernel⟩
theorem ok_plan {f : Addr} {fd : FuncData} {q : Str} (F : FunD K "_law_plan" q (defArgs s_L_plan) (defBody s_L_plan) (defScope s_L_plan) [] [] f fd) (zr : mg "range" = none)
    (DD : Def P w K mg base CX0 1 "_law_draw" ["_law_source_here", "_law_many"] spDraw) (DP : Def P w K mg base CX0 2 "_law_pick" ["_law_source_here", "_law_some"] spPick)
    (DM : Def P w K mg base CX0 3 "_law_moves" ["_law_source_here", "_law_many", "_law_letters"] spMoves) :
    FnOk P w K mg base CX0 4 f fd ["_law_source_here", "_law_most"] spPlan := by
  refine F.ok scPlan (fun vs H Q E h => ?_) (fun cdv A outer s H vs Q E hr h => ?_)
  · obtain ⟨l, n, rfl, _⟩ := h
    rfl
  · obtain ⟨l, n, rfl, src, n1, k⟩ := h
    have r1 : Room 1 _ := hr.mono (by decide)
    have r2 : Room 2 _ := hr.mono (by decide)
    refine ⟨_, PSs.nox (pss_cons (ps_par (i := 2) (j := 3) rfl scPlan.nd rfl rfl (by decide) rfl rfl (pa_cons (pe_op op_add pe_int (pe_def DD r1 pass0 rfl (pa_cons (pv 0) (pa_cons (pv 1) pa_nil)))) (pa_cons (pe_def DP r2 pass0 rfl (pa_cons (pv 0) (pa_cons (pe_lst (pa_cons pe_int (pa_cons pe_int (pa_cons pe_int (pa_cons pe_int (pa_cons pe_int pa_nil)))))) pa_nil))) pa_nil)) (by rfl))
      (pss_cons (ps_set (i := 4) scPlan.nd rfl (.inl rfl) (pe_def DM hr pass0 rfl (pa_cons (pv 0) (pa_cons (pv 2) (pa_cons (pv 3) pa_nil)))))
      (pss_cons (ps_setLc (i := 5) (own := [("_law_state", 6)]) (g := gName 6) (te := tVar 6) rfl scPlan.nd rfl rfl (by rfl) (pi_range1 rfl zr (pa_cons (pv 2) pa_nil)) (blkOk_by (own := [("_law_state", 6)]) (N := NPl) (sc := defScope s_L_plan) (by decide +kernel)) (fun _ _ _ _ _ => pg_name (i := 6) scPlan.nd rfl (Or.inl rfl)) (fun _ _ _ _ _ => by exact pts_one (pt_cmpR op_eq (pe_def DD r1 pass0 rfl (pa_cons (pv 0) (pa_cons pe_int pa_nil))) pe_int (nomark _)))
        (fun _ _ _ _ _ => pv 6))
      (pss_one (ps_ret (pe_tup (pa_cons (pv 4) (pa_cons (pe_def DD r1 pass0 rfl (pa_cons (pv 0) (pa_cons (pv 2) pa_nil))) (pa_cons (pv 5) pa_nil))))))))), ?_⟩
    refine ⟨_, rfl, _, rfl, l, n, 9, rfl, src, by omega, by omega, by omega, fun y H1 y0 y1 b1 src1 => ?_⟩
    obtain ⟨y, rfl⟩ : ∃ j : Nat, y = (j : Nat) := ⟨y.toNat, by omega⟩
    refine ⟨_, _, rfl, rfl, _, rfl, (by show 5 ≤ sizeLine; decide), fun pl npl => ?_⟩
    have npll := src1.ne npl
    have s2 := same_upd (o := .lst [.int 1, .int 2, .int 3, .int 2, .int 4]) npl
    refine ⟨l, pl, n + 1, _, rfl, src1.same s2, by omega, upd_same, npll, (by show 1 ≤ 5; decide), (by show 5 ≤ 1000; decide), fun x H2 mx b2 src2 => ⟨_, _, rfl, ?_⟩⟩
    have b3 := (b1.trans (But.of s2)).trans b2
    obtain ⟨wd, rfl, w1, w4⟩ : ∃ wd : Nat, x = .int (wd : Nat) ∧ 1 ≤ wd ∧ wd ≤ 4 := by
      simp only [List.mem_cons, List.not_mem_nil, or_false] at mx
      rcases mx with rfl | rfl | rfl | rfl | rfl
      · exact ⟨1, rfl, by decide, by decide⟩
      · exact ⟨2, rfl, by decide, by decide⟩
      · exact ⟨3, rfl, by decide, by decide⟩
      · exact ⟨2, rfl, by decide, by decide⟩
      · exact ⟨4, rfl, by decide, by decide⟩
    clear mx b2 src1 s2 b1 npl
    obtain ⟨many, hm⟩ : ∃ many, many = 1 + y := ⟨_, rfl⟩
    have em : (1 : Int) + ((y : Nat) : Int) = ((many : Nat) : Int) := by omega
    show tSeq _ _ _ [some (.ref l), some (.int 9), some (.int (1 + ((y : Nat) : Int))), some (.int (wd : Nat)), none, none, none] H2
    rw [em]
    refine ⟨_, rfl, _, rfl, _, rfl, l, n + 1 + 1, many, wd, rfl, src2, by omega, by omega, by omega, w1, w4, fun r mv H3 b4 nr R FM lm src3 => ?_⟩
    have b5 := b3.trans b4
    refine ⟨_, rfl, (many : Nat), rfl, by omega, by omega, fun D nD => ?_⟩
    have nDl := src3.ne nD
    refine lc_range (lo := 0) (n := many) (fun i Hc => But2 l D H3 Hc ∧ Src Hc l (n + 1 + 1 + 100 + i) ∧ ∃ mk : List Nat, Hc D = some (.lst (mk.map nv)) ∧ mk.length ≤ i ∧ ∀ e ∈ mk, e < many) ⟨But2.ofD But.upd, src3.upd nDl, [], upd_same, Nat.le_refl _, fun _ h => by simp at h⟩ (fun i Hc hi ⟨bt, sc, mk, hD, lk, ak⟩ => ?_) (fun Hc ⟨bt, sc, mk, hD, lk, ak⟩ => ?_)
    · have ei : (0 : Int) + (i : Nat) = (i : Nat) := by omega
      rw [ei]
      refine ⟨rfl, ?_⟩
      refine ⟨_, rfl, l, n + 1 + 1 + 100 + i, 2, rfl, sc, by omega, by omega, by omega, fun k0 H' _ _ b' src' => ⟨rfl, _, rfl, ?_⟩⟩
      have hD' := b' _ _ nDl hD
      refine ite2 (fun _ => ?_) (fun _ => ?_)
      · refine ⟨_, rfl, _, hD', by rw [List.length_map]; show mk.length < 16777216; omega, (bt.trans (But2.ofL b')).trans (But2.ofD But.upd), src'.upd nDl, mk ++ [i], by rw [upd_same, List.map_append]; rfl, by rw [List.length_append, List.length_singleton]; omega, valid_snoc ak (by omega)⟩
      · exact ⟨bt.trans (But2.ofL b'), src', mk, hD', by omega, ak⟩
    · have b6 := b5.trans (bt.done nD)
      have R6 := R.but (bt.done nD)
      refine ⟨_, rfl, _, rfl, _, rfl, l, _, many, rfl, sc, by omega, by omega, by omega, fun st H5 s0 s1 b7 src7 => ⟨_, rfl, (by show 3 ≤ sizeLine; decide), fun T nT => ?_⟩⟩
      obtain ⟨st, rfl⟩ : ∃ j : Nat, st = (j : Nat) := ⟨st.toNat, by omega⟩
      have sT := same_upd (o := .tup [.ref r, .int (st : Nat), .ref D]) nT
      have nTl := src7.ne nT
      refine k T r D mv wd st mk _ ((b6.trans b7).trans (But.of sT)) (Lf.But.nil (b6.trans b7) nTl nT) ⟨⟨nTl, upd_same⟩, (R6.but b7).same sT, FM, ⟨nDl, sT _ _ (b7 _ _ nDl hD)⟩, by omega, fun i hi => by rw [lm]; exact ak i hi, by omega, by omega⟩ ((src7.same sT).up (by omega))
end
end K67

set_option Elab.async false
set_option linter.all false
set_option maxRecDepth 100000
set_option maxHeartbeats 8000000
namespace K67
open PySem PySem.Spec PyProof.Rows L2 Lf
def spLed : Sp := fun vs H Q _ => ∃ l T r pm mv wd first mk x, vs = [.ref T, .str (ws x)] ∧ Plan H l T r pm mv wd first mk ∧ (∀ c ∈ x, c < wd) ∧ Q (nv (lead mv first x)) H
def spHas : Sp := fun vs H Q _ => ∃ l T r pm mv wd first mk x, vs = [.ref T, .str (ws x)] ∧ Plan H l T r pm mv wd first mk ∧ (∀ c ∈ x, c < wd) ∧ Q (.bl (decide (lead mv first x ∈ mk))) H
theorem letter_ix {c : Nat} (h : c < 4) : Builtin.Str.occurrences ("abcd" : Str) ⟨#[97 + c]⟩ 0 ("abcd" : Str).length 1 = [c] := by
  have : c = 0 ∨ c = 1 ∨ c = 2 ∨ c = 3 := by omega
  rcases this with rfl | rfl | rfl | rfl <;> decide +kernel
theorem ws_at {x : List Nat} {i c : Nat} (h : (ws x).cps[i]? = some c) : ∃ d, x[i]? = some d ∧ c = 97 + d := by
  unfold ws at h
  rw [List.getElem?_toArray, List.getElem?_map] at h
  cases e : x[i]? with
  | none => rw [e] at h; cases h
  | some d => rw [e] at h; cases h; exact ⟨d, rfl, rfl⟩
theorem ws_size {x : List Nat} : (ws x).cps.size = x.length := by simp [ws]
theorem lead_snoc {mv : List (List Nat)} {s c : Nat} {x : List Nat} : lead mv s (x ++ [c]) = step mv (lead mv s x) c := by
  unfold lead
  rw [List.foldl_append]
  rfl
section
variable {P : Program} {w : World} {K : PySem.W.Frag} {mg : Str → Option Value} {base : Heap}
theorem scLed : FnScope ["_law_plan_here", "_law_word", "_law_moves_here", "_law_state", "_law_marked", "_law_sign"] ["_law_plan_here", "_law_word"] (defScope s_L_led) := ⟨rfl, rfl, rfl, by decide +kernel, rfl, by decide +kernel, by decide +kernel⟩
theorem ok_led {f : Addr} {fd : FuncData} {q : Str} (F : FunD K "_law_led" q (defArgs s_L_led) (defBody s_L_led) (defScope s_L_led) [] [] f fd) :
    FnOk P w K mg base CX0 1 f fd ["_law_plan_here", "_law_word"] spLed := by
  refine F.ok scLed (fun vs H Q E h => ?_) (fun cdv A outer s H vs Q E hr h => ?_)
  · obtain ⟨l, T, r, pm, mv, wd, first, mk, x, rfl, _⟩ := h
    rfl
  · obtain ⟨l, T, r, pm, mv, wd, first, mk, x, rfl, PL, xw, k⟩ := h
    refine ⟨_, PSs.nox (pss_cons (ps_asg (pv 0) (pg_tup rfl (pgs_cons (pg_name (i := 2) scLed.nd rfl (.inl rfl)) (pgs_cons (pg_name (i := 3) scLed.nd rfl (.inl rfl)) (pgs_cons (pg_name (i := 4) scLed.nd rfl (.inl rfl)) pgs_nil)))))
      (pss_cons (ps_for PassesOwn.never rfl (pi_str (pv 1)) (pg_name (i := 5) scLed.nd rfl (.inl rfl))
        (pss_one (ps_set (i := 3) scLed.nd rfl (.inl rfl) (pe_ix ix_list (pe_ix ix_list (pv 2) (pv 3) (fun _ _ => rfl)) (pe_bm PySem.F.plainAttrs_str PySem.F.slot_str_index PySem.F.type_str_index mt_sindex pe_str (pa_cons (pv 5) pa_nil)) (fun _ _ => rfl)))))
      (pss_one (ps_ret (pv 3))))), ?_⟩
    refine ⟨_, rfl, T, _, rfl, SqT.of PL.t.2, rfl, _, _, rfl, _, _, rfl, _, _, rfl, rfl, ?_⟩
    obtain ⟨_, as, hr0, la, ra⟩ := PL.m.ex
    have FM := PL.f
    refine ⟨_, rfl, ws x, rfl, ?_⟩
    refine for_it (walk_str (z := ws x)) (fun j σ Hc => ∃ v5 : Option V, σ = [some (.ref T), some (.str (ws x)), some (.ref r), some (nv (lead mv first (x.take j))), some (.ref pm), v5] ∧ Hc = H) ⟨none, rfl, rfl⟩ (fun _ _ _ _ _ => True.intro) ?_ ?_
    · rintro j y σ Hc H' hj ⟨v5, rfl, rfl⟩ ⟨rfl, c, hc, rfl⟩
      obtain ⟨d, hd, rfl⟩ := ws_at hc
      have dw := xw d (List.mem_of_getElem? hd)
      have sl := lead_lt FM (x := x.take j) PL.a fun c hc => xw c (List.mem_of_mem_take hc)
      obtain ⟨row, g1, g2, g3⟩ := step_lt FM sl dw
      obtain ⟨a, ha⟩ := lt_get (show lead mv first (x.take j) < as.length by rw [la]; exact sl)
      refine ⟨_, rfl, _, rfl, r, as.map V.ref, _, .ref a, rfl, rfl, SqL.of hr0, atI_nat (get_map ha), rfl, _, rfl, ("abcd" : Str), ⟨#[97 + d]⟩, d, [], rfl, rfl, letter_ix (by have := FM.2.2.1; omega), a, _, _, nv _, rfl, rfl, SqL.of (ra _ a row ha g1).2, atI_nat (get_map g2), some (.str ⟨#[97 + d]⟩), by rw [take_snoc hd, lead_snoc]; rfl, rfl⟩
    · rintro σ Hc ⟨v5, rfl, rfl⟩
      rw [ws_size, List.take_length]
      exact ⟨_, rfl, k⟩
theorem scHas : FnScope ["_law_plan_here", "_law_word"] ["_law_plan_here", "_law_word"] (defScope s_L_has) := ⟨rfl, rfl, rfl, by decide +kernel, rfl, by decide +kernel, by decide +kernel⟩
theorem ok_has {f : Addr} {fd : FuncData} {q : Str} (F : FunD K "_law_has" q (defArgs s_L_has) (defBody s_L_has) (defScope s_L_has) [] [] f fd) (DL : Def P w K mg base CX0 1 "_law_led" ["_law_plan_here", "_law_word"] spLed) :
    FnOk P w K mg base CX0 2 f fd ["_law_plan_here", "_law_word"] spHas := by
  refine F.ok scHas (fun vs H Q E h => ?_) (fun cdv A outer s H vs Q E hr h => ?_)
  · obtain ⟨l, T, r, pm, mv, wd, first, mk, x, rfl, _⟩ := h
    rfl
  · obtain ⟨l, T, r, pm, mv, wd, first, mk, x, rfl, PL, xw, k⟩ := h
    refine ⟨_, PSs.nox (pss_one (ps_ret (pe_cmpR op_in_seq (pe_def DL hr pass0 rfl (pa_cons (pv 0) (pa_cons (pv 1) pa_nil))) (pe_ix ix_tup (pv 0) pe_int (fun _ _ => rfl)) (by rfl)))), ?_⟩
    refine ⟨_, rfl, _, rfl, l, T, r, pm, mv, wd, first, mk, x, rfl, PL, xw, ?_⟩
    refine ⟨_, rfl, T, _, 2, .ref pm, rfl, rfl, SqT.of PL.t.2, rfl, pm, mk.map nv, rfl, .inl (SqL.of PL.k.2), rfl, by rw [List.all_map]; exact List.all_eq_true.mpr fun _ _ => rfl, ?_⟩
    have e : inV (nv (lead mv first x)) (mk.map nv) = decide (lead mv first x ∈ mk) := by
      unfold inV
      rw [List.any_map]
      by_cases h : lead mv first x ∈ mk
      · rw [decide_eq_true h]
        exact List.any_eq_true.mpr ⟨_, h, by show decide (_ = _) = true; simp⟩
      · rw [decide_eq_false h]
        refine Bool.eq_false_iff.mpr fun z => h ?_
        obtain ⟨y, hy, e⟩ := List.any_eq_true.mp z
        have : ((y : Nat) : Int) = ((lead mv first x : Nat) : Int) := of_decide_eq_true e
        rw [← show y = lead mv first x by omega]
        exact hy
    rw [if_neg Bool.false_ne_true, e]
    exact k
end
end K67

set_option Elab.async false
set_option linter.all false
set_option maxRecDepth 100000
set_option maxHeartbeats 8000000
namespace K67
open PySem PySem.Spec PyProof.Rows L2 Lf
/-- words of letters below k, of n letters at most -/
def Wds (k n : Nat) (L : List (List Nat)) : Prop := ∀ x ∈ L, x.length ≤ n ∧ ∀ c ∈ x, c < k
def spAll : Sp := fun vs H Q _ => ∃ k m : Nat, vs = [.int (k : Nat), .int (m : Nat)] ∧ 1 ≤ k ∧ k ≤ 4 ∧ m ≤ 9 ∧ ∀ p L H', H p = none → Same H H' → H' p = some (.lst (L.map wv)) → Wds k 9 L → L.length ≤ 600000 → Q (.ref p) H'
abbrev NA : List Str := ["_law_letters", "_law_most", "_law_found", "_law_ends", "_law_turn", "_law_later", "_law_word", "_law_sign"]
abbrev teApp : TE := tOp (fun x y H Q => ∃ a b, x = .str a ∧ y = .str b ∧ a.length + b.length ≤ sizeLine ∧ Q (.str (a ++ b)) H) (tVar 6) (tVar 7)
theorem cutAb {k : Nat} (h : k ≤ 4) : cutS ("abcd" : Str) none (some (k : Nat)) = ws (List.range k) := by
  have : k = 0 ∨ k = 1 ∨ k = 2 ∨ k = 3 ∨ k = 4 := by omega
  rcases this with rfl | rfl | rfl | rfl | rfl <;> decide +kernel
theorem pow_le {i : Nat} (h : i ≤ 9) : 4 ^ i ≤ 262144 := by
  have : i = 0 ∨ i = 1 ∨ i = 2 ∨ i = 3 ∨ i = 4 ∨ i = 5 ∨ i = 6 ∨ i = 7 ∨ i = 8 ∨ i = 9 := by omega
  rcases this with rfl | rfl | rfl | rfl | rfl | rfl | rfl | rfl | rfl | rfl <;> decide
theorem Wds.more {k n : Nat} {L : List (List Nat)} {x : List Nat} (h : Wds k (n + 1) L) (hx : x.length ≤ n ∧ ∀ c ∈ x, c < k) : Wds k (n + 1) (L ++ (List.range k).map fun c => x ++ [c]) := fun y hy => by
  rcases List.mem_append.mp hy with z | z
  · exact h y z
  · obtain ⟨c, hc, rfl⟩ := List.mem_map.mp z
    refine ⟨by rw [List.length_append, List.length_singleton]; have := hx.1; omega, fun d hd => ?_⟩
    rcases List.mem_append.mp hd with z | z
    · exact hx.2 d z
    · rw [List.mem_singleton.mp z]; exact List.mem_range.mp hc
theorem Wds.app {k n : Nat} {L M : List (List Nat)} (h : Wds k n L) (g : Wds k (n + 1) M) : Wds k (n + 1) (L ++ M) := fun y hy => by
  rcases List.mem_append.mp hy with z | z
  · exact ⟨by have := (h y z).1; omega, (h y z).2⟩
  · exact g y z
section
variable {P : Program} {w : World} {K : PySem.W.Frag} {mg : Str → Option Value} {base : Heap}
theorem scAll : FnScope NA ["_law_letters", "_law_most"] (defScope s_L_all_words) := ⟨rfl, rfl, rfl, by decide +kernel, rfl, by decide +kernel, by decide +kernel⟩
theorem ok_all {f : Addr} {fd : FuncData} {q : Str} (F : FunD K "_law_all_words" q (defArgs s_L_all_words) (defBody s_L_all_words) (defScope s_L_all_words) [] [] f fd) (zr : mg "range" = none) :
    FnOk P w K mg base CX0 1 f fd ["_law_letters", "_law_most"] spAll := by
  refine F.ok scAll (fun vs H Q E h => ?_) (fun cdv A outer s H vs Q E hr h => ?_)
  · obtain ⟨kk, m, rfl, _⟩ := h
    rfl
  · obtain ⟨kk, m, rfl, k1, k4, m9, k⟩ := h
    refine ⟨_, PSs.nox (pss_cons (ps_par (i := 2) (j := 3) rfl scAll.nd rfl rfl (by decide) rfl rfl (pa_cons (pe_lst (pa_cons pe_str pa_nil)) (pa_cons (pe_lst (pa_cons pe_str pa_nil)) pa_nil)) (by rfl))
      (pss_cons (ps_for PassesOwn.never rfl (pi_range1 rfl zr (pa_cons (pv 1) pa_nil)) (pg_name (i := 4) scAll.nd rfl (.inl rfl))
        (pss_cons (ps_set (i := 5) scAll.nd rfl (.inl rfl) (pe_lst pa_nil))
        (pss_cons (ps_for PassesOwn.never rfl (pi_list (pv 3)) (pg_name (i := 6) scAll.nd rfl (.inr rfl))
          (pss_one (ps_expr (pe_bm PySem.F.plainAttrs_list PySem.F.slot_list_extend PySem.F.type_list_extend mt_extend (pv 5) (pa_cons (pe_lc (own := [("_law_sign", 7)]) (g := gName 7) (te := teApp) (by rfl) scAll.nd (pi_str (pe_slice sl_str pe_str po_none (po_some (pv 0)))) (blkOk_by (own := [("_law_sign", 7)]) (N := NA) (sc := defScope s_L_all_words) (by decide +kernel)) (fun _ _ _ _ _ => pg_name (i := 7) scAll.nd rfl (Or.inl rfl)) (fun _ _ _ _ _ => pts_nil)
            (fun _ _ _ _ _ => by exact pe_op op_add_str (pv 6) (pv 7))) pa_nil)))))
        (pss_one (ps_par (i := 2) (j := 3) rfl scAll.nd rfl rfl (by decide) rfl rfl (pa_cons (pe_op op_cat (pv 2) (pv 5)) (pa_cons (pv 5) pa_nil)) (by rfl))))))
      (pss_one (ps_ret (pv 2))))), ?_⟩
    refine ⟨(by show 1 ≤ sizeLine; decide), fun pf nf => ?_⟩
    have s1 := same_upd (o := .lst [.str ("" : Str)]) nf
    have hf : L2.upd H pf (.lst [.str ("" : Str)]) pf = some (.lst ([[]].map wv)) := upd_same
    generalize L2.upd H pf (.lst [.str ("" : Str)]) = H1 at s1 hf ⊢
    refine ⟨(by show 1 ≤ sizeLine; decide), fun pe ne => ?_⟩
    have s2 := same_upd (o := .lst [.str ("" : Str)]) ne
    have he : L2.upd H1 pe (.lst [.str ("" : Str)]) pe = some (.lst ([[]].map wv)) := upd_same
    have hf2 := s2 _ _ hf
    have s3 := s1.trans s2
    generalize L2.upd H1 pe (.lst [.str ("" : Str)]) = H2 at s3 hf2 he ⊢
    refine ⟨_, _, rfl, _, rfl, (m : Nat), rfl, by omega, by omega, ?_⟩
    have w0 : Wds kk 0 [[]] := fun x hx => by rw [List.mem_singleton.mp hx]; exact ⟨Nat.le_refl _, fun _ h => by cases h⟩
    refine for_range (lo := 0) (n := m) (fun i σ Hi => ∃ (pf pe : Addr) (v4 v5 v6 : Option V) (L E : List (List Nat)), σ = [some (.int (kk : Nat)), some (.int (m : Nat)), some (.ref pf), some (.ref pe), v4, v5, v6, none] ∧ Same H Hi ∧ Hi pf = some (.lst (L.map wv)) ∧ Hi pe = some (.lst (E.map wv)) ∧ H pf = none ∧ Wds kk i L ∧ Wds kk i E ∧ E.length ≤ 4 ^ i ∧ L.length ≤ 2 * 4 ^ i)
      ⟨pf, pe, none, none, none, [[]], [[]], rfl, s3, hf2, he, nf, w0, w0, by decide, by decide⟩ ?_ ?_
    · rintro i σ Hi hi ⟨pf, pe, v4, v5, v6, L, E, rfl, si, hf, he, nf, wL, wE, lE, lL⟩
      have pi := pow_le (show i ≤ 9 by omega)
      refine ⟨(by show 0 ≤ sizeLine; decide), fun pl nl => ?_⟩
      have s4 := si.trans (same_upd (o := .lst []) nl)
      have npl := nil_of si nl
      have hf' := same_upd (o := .lst []) nl _ _ hf
      have he' := same_upd (o := .lst []) nl _ _ he
      have hl : L2.upd Hi pl (.lst []) pl = some (.lst (([] : List (List Nat)).map wv)) := upd_same
      have nle : pe ≠ pl := fun z => by rw [z, nl] at he; cases he
      have nlf : pf ≠ pl := fun z => by rw [z, nl] at hf; cases hf
      generalize L2.upd Hi pl (.lst []) = H3 at s4 hf' he' hl ⊢
      refine ⟨_, rfl, pe, rfl, ⟨_, SqL.of he'⟩, ?_⟩
      refine for_list (K := K) (a := pe) (xs := E.map wv) (fun j σ Hj => ∃ (v6 : Option V) (M : List (List Nat)), σ = [some (.int (kk : Nat)), some (.int (m : Nat)), some (.ref pf), some (.ref pe), some (.int (0 + (i : Nat))), some (.ref pl), v6, none] ∧ Same H Hj ∧ Hj pf = some (.lst (L.map wv)) ∧ Hj pe = some (.lst (E.map wv)) ∧ Hj pl = some (.lst (M.map wv)) ∧ Wds kk (i + 1) M ∧ M.length ≤ 4 * j)
        ⟨v6, [], rfl, s4, hf', he', hl, (fun _ h => (by cases h)), Nat.zero_le _⟩ (fun j σ Hj _ ⟨_, _, _, _, _, e, _⟩ => SqL.of e) ?_ ?_
      · rintro j y σ Hj hj ⟨v6, M, rfl, sj, hfj, hej, hlj, wM, lM⟩
        obtain ⟨x, hx, rfl⟩ := map_get hj
        have xw := wE x (List.mem_of_getElem? hx)
        have jl := get_lt hx
        refine ⟨_, rfl, .inl ⟨rfl, _, SqL.of hlj⟩, _, rfl, (kk : Nat), rfl, ("abcd" : Str), rfl, by decide, ws (List.range kk), congrArg V.str (cutAb k4), fun D nD => ?_⟩
        refine lc_it (walk_str (z := ws (List.range kk))) (fun t Hd => But D Hj Hd ∧ Hd D = some (.lst ((((List.range kk).take t).map fun c => x ++ [c]).map wv))) ⟨But.upd, upd_same⟩ (fun _ _ _ _ => True.intro) (fun t y Hd H' ht ⟨bd, hD⟩ ⟨e', c, hc, ey⟩ => ?_) (fun Hd ⟨bd, hD⟩ => ?_)
        · subst e' ey
          obtain ⟨d, hd, rfl⟩ := ws_at hc
          have tk : t < kk := by have := get_lt hd; rwa [List.length_range] at this
          refine ⟨rfl, yesT ?_⟩
          refine ⟨_, rfl, _, rfl, ws x, ⟨#[97 + d]⟩, rfl, rfl, by rw [ws_len]; show x.length + 1 ≤ 16777216; omega, ?_⟩
          refine ⟨_, hD, ?_, But.trans bd But.upd, ?_⟩
          · rw [List.length_map, List.length_map, List.length_take, List.length_range]
            show min t kk < 16777216
            omega
          · rw [upd_same, ws_app, take_snoc hd, List.map_append, List.map_append]
            rfl
        · have hl2 := bd _ _ (fun z => by rw [z, nD] at hlj; cases hlj) hlj
          have nDl : D ≠ pl := fun z => by rw [z, hlj] at nD; cases nD
          have e4 : (List.range kk).take (ws (List.range kk)).cps.size = List.range kk := by rw [ws_size, List.take_length]
          rw [e4] at hD
          have ml : (M ++ (List.range kk).map fun c => x ++ [c]).length ≤ 4 * (j + 1) := by
            rw [List.length_append, List.length_map, List.length_range]
            omega
          refine ⟨pl, D, _, _, rfl, rfl, hl2, hD, ?_, ?_⟩
          · rw [List.length_append, List.length_map, List.length_range] at ml
            rw [List.length_map, List.length_map, List.length_map, List.length_range]
            show M.length + kk ≤ 16777216
            omega
          · have sd := Same.but (L2.Same.refl _) nD bd
            refine ⟨_, M ++ (List.range kk).map fun c => x ++ [c], rfl, fun b o e => ?_, ?_, ?_, ?_, wM.more xw, ml⟩
            · rw [upd_ne (ne_of_none e npl)]
              exact sd _ _ (sj b o e)
            · rw [upd_ne nlf]
              exact sd _ _ hfj
            · rw [upd_ne nle]
              exact sd _ _ hej
            · rw [upd_same, List.map_append]
      · rintro σ Hj ⟨v6, M, rfl, sj, hfj, hej, hlj, wM, lM⟩
        rw [List.length_map] at lM
        have p4 : 4 ^ (i + 1) = 4 * 4 ^ i := by rw [Nat.pow_succ, Nat.mul_comm]
        refine ⟨_, rfl, _, rfl, pf, pl, _, _, rfl, rfl, hfj, hlj, ?_, fun pn nn => ?_⟩
        · rw [List.length_map, List.length_map]
          show L.length + M.length ≤ 16777216
          omega
        · refine ⟨_, rfl, _, _, rfl, pn, pl, _, _, _, L ++ M, M, rfl, sj.trans (same_upd nn), ?_, same_upd nn _ _ hlj, nil_of sj nn, wL.app wM, wM, by omega, by rw [List.length_append]; omega⟩
          rw [upd_same, List.map_append]
    · rintro σ Hi ⟨pf, pe, v4, v5, v6, L, E, rfl, si, hf, he, nf, wL, wE, lE, lL⟩
      have pi := pow_le m9
      exact ⟨_, rfl, k pf L Hi nf si hf (fun x hx => ⟨by have := (wL x hx).1; omega, (wL x hx).2⟩) (by omega)⟩
end
end K67

set_option Elab.async false
set_option linter.all false
set_option maxRecDepth 100000
set_option maxHeartbeats 4000000
/-! list(text), text * n; texts by their signs. -/
namespace Lf
open PySem PySem.Spec PyProof.Rows L2
/-- a text of signs -/
def tx (cs : List Nat) : Str := ⟨cs.toArray⟩
theorem tx_len (cs : List Nat) : (tx cs).length = cs.length := by
  show cs.toArray.size = _
  simp
theorem tx_list (cs : List Nat) : (tx cs).cps.toList = cs := rfl
theorem tx_app (a b : List Nat) : tx a ++ tx b = tx (a ++ b) := by
  show Str.mk (a.toArray ++ b.toArray) = Str.mk (a ++ b).toArray
  simp
theorem tx_inj {a b : List Nat} (h : tx a = tx b) : a = b := by
  have := congrArg (fun z : Str => z.cps.toList) h
  exact this
theorem tx_of (z : Str) : z = tx z.cps.toList := by
  obtain ⟨⟨l⟩⟩ := z
  rfl
theorem call_listStr {X : Cx} (hc : X.calm = true) : CallR X (.type "list") (fun xs H Q => ∃ cs : List Nat, xs = [.str (tx cs)] ∧ cs.length ≤ sizeLine ∧ ∀ l, H l = none → Q (.ref l) (upd H l (.lst (cs.map fun c => V.str (tx [c]))))) := by
  intro pins s σ H xs us Q I r h
  obtain ⟨cs, rfl, hz, q⟩ := h
  obtain ⟨u, rfl, rx⟩ := vals1 r
  obtain ⟨t, rfl⟩ := rx
  have sz : (tx cs).cps.size = cs.length := by simp [tx]
  refine call_list_str (I.ok.hd hc) (tx cs) t (fun h' tk acc' c' kp e it => ?_) (by rw [sz]; exact hz)
  have la : acc'.toList.length = cs.length := by rw [Array.length_toList, it.1, sz]
  have rv : Vals (cs.map fun c => V.str (tx [c])) acc'.toList := by
    have g : ∀ (cs : List Nat) (us : List Value), us.length = cs.length → (∀ (j : Nat) (v : Value), us[j]? = some v → ∃ (c : Nat) (u : Tok), cs[j]? = some c ∧ v = Value.str ⟨#[c]⟩ u) → Vals (cs.map fun c => V.str (tx [c])) us := by
      intro cs
      induction cs with
      | nil =>
        intro us hl _
        cases us with
        | nil => exact .nil
        | cons a b => simp at hl
      | cons c cs ih =>
        intro us hl hv
        cases us with
        | nil => simp at hl
        | cons a b =>
          refine .cons ?_ (ih b (by simpa using hl) fun j v hj => hv (j + 1) v hj)
          obtain ⟨c', u, e1, e2⟩ := hv 0 a rfl
          cases e1
          exact ⟨u, e2⟩
    refine g cs _ la fun j v hj => ?_
    have hj' : acc'[j]? = some v := by rw [← Array.getElem?_toList]; exact hj
    obtain ⟨c, u, e1, e2⟩ := it.2 j v hj'
    refine ⟨c, u, ?_, e2⟩
    rw [← Array.getElem?_toList] at e1
    exact e1
  refine ⟨.ref s.heap.objs.size, _, I.laid (t' := tk) kp (Nat.le_refl _) (show ObjOk X.prog X.w _ h' _ (.lst (cs.map fun c => V.str (tx [c]))) from ⟨by rw [List.length_map]; exact hz, acc'.toList, c', rv, ?_⟩), rfl, q _ (I.hok.fresh (Nat.le_refl _))⟩
  exact e
theorem foldl_app (x : Array Nat) : ∀ (n : Nat) (a : Array Nat), (List.replicate n x).foldl (· ++ ·) a = a ++ (List.replicate n x.toList).flatten.toArray
  | 0, a => by simp
  | n + 1, a => by
    rw [List.replicate_succ, List.foldl_cons, foldl_app x n, List.replicate_succ, List.flatten_cons]
    apply Array.ext'
    simp
theorem flat_len (n : Nat) (cs : List Nat) : (List.replicate n cs).flatten.length = n * cs.length := by
  induction n with
  | zero => rw [Nat.zero_mul]; rfl
  | succ n ih => rw [List.replicate_succ, List.flatten_cons, List.length_append, ih, Nat.succ_mul, Nat.add_comm]
theorem op_mul_str {X : Cx} : OpR X (binaryOp .Mult) (fun x y H Q => ∃ (cs : List Nat) (n : Nat), x = .str (tx cs) ∧ y = .int (n : Nat) ∧ 2 ≤ n ∧ n ≤ 1000 ∧ 1 ≤ cs.length ∧ cs.length ≤ 1000 ∧ Q (.str (tx (List.replicate n cs).flatten)) H) := by
  intro pins s σ H x y v u Q I rx ry h
  obtain ⟨cs, n, rfl, rfl, h2, hn, l1, l2, q⟩ := h
  obtain ⟨t, rfl⟩ := rx
  obtain ⟨t', rfl⟩ := ry
  have ll : (tx cs).length = cs.length := tx_len cs
  have nl : ¬ ((n : Nat) : Int) < 1 := by omega
  have no : (((n : Nat) : Int) == 1 || (tx cs).length == 0) = false := by
    rw [ll]
    have a : (((n : Nat) : Int) == 1) = false := by
      apply beq_false_of_ne
      omega
    have b : (cs.length == 0) = false := by
      apply beq_false_of_ne
      omega
    rw [a, b]
    rfl
  have hm : cs.length * n ≤ 1000000 := by
    have := Nat.mul_le_mul l2 hn
    omega
  refine P.mul_str ?_ (fun _ _ => ?_) (fun _ _ => ?_) ?_
  · rw [decide_eq_false (by omega), decide_eq_false (by omega)]
    rfl
  · rw [ll]
    have : (cs.length : Int) ≤ (2 ^ 63 - 1) / (n : Nat) := by
      rw [Int.le_ediv_iff_mul_le (by omega)]
      have : ((cs.length * n : Nat) : Int) ≤ 1000000 := Int.ofNat_le.mpr hm
      rw [Int.natCast_mul] at this
      omega
    omega
  · rw [ll, Int.toNat_natCast]
    have : ¬ cs.length * n > sizeLine := by rw [sizeLine_eq]; omega
    show decide (cs.length * n > sizeLine) = false
    exact decide_eq_false this
  · rw [if_neg nl, no, if_neg (by decide), Int.toNat_natCast]
    have e : (⟨(List.replicate n (tx cs).cps).foldl (· ++ ·) #[]⟩ : Str) = tx (List.replicate n cs).flatten := by
      rw [foldl_app]
      show Str.mk (#[] ++ (List.replicate n cs).flatten.toArray) = _
      rw [Array.empty_append]
      rfl
    rw [e]
    refine ⟨?_, ⟨.str (tx (List.replicate n cs).flatten), H, I.tok _, ⟨_, rfl⟩, q⟩⟩
    rw [tx_len]
    have : (List.replicate n cs).flatten.length = n * cs.length := flat_len n cs
    rw [this, sizeLine_eq, Nat.mul_comm]
    omega
end Lf

set_option Elab.async false
set_option linter.all false
set_option maxRecDepth 100000
set_option maxHeartbeats 4000000
/-! try: .. except X as e: .. except Y: ..; what a suite asks of e: isinstance, told(). -/
namespace Lf
open PySem PySem.Spec PyProof.Rows L2
/-- clauses: the first one by a name, the others without -/
def wAsM (K : PySem.W.Frag) (c : Value) (i : Nat) (ts : Addr → Value → Option Addr → TS) (rest : Ends → WX) (D : Ends) : WX := fun cls d σ H =>
  ∃ b, PySem.W.exmOne K cls c = some b ∧ (b = true → ∀ a, H a = none → ts a cls d ⟨fun σ' H' => D.nx (σ'.set i none) H', D.rt, fun σ' H' => D.bk (σ'.set i none) H', fun σ' H' => D.ct (σ'.set i none) H'⟩ (σ.set i (some (.ref a))) H) ∧ (b = false → rest D cls d σ H)
/-- with as many slots as there are names -/
def wLen (n : Nat) (W : WX) : WX := fun cls d σ H => σ.length = n → W cls d σ H
section
variable {X : Cx} {x n : Str} {c : Value} {i : Nat} {body suite : List Stmt} {b1 : Stmt} {np pos p3 : Pos} {tb : WX → TS} {ts : Addr → Value → Option Addr → TS} {Wout : WX} {more : List ExceptHandler} {l : List (Value × (Addr → Value → Option Addr → TS))}
theorem ps_try_asM (st : X.stack = X.env :: X.outer) (fr : X.env.frame = some X.env.locals) (nd : X.N.Nodup) (ni : X.N[i]? = some n) (kd : X.env.kindOf n = some .local) (nm : Names X x c) (tk : Takes X Wout)
    (inner : ∀ (W : WX) (pn : List (Addr × Obj)) (xe : Value → Shared → Prop), Takes (X.tr pn xe) W → PassesOwn (model X.prog X.w) X.A X.env xe → PSs (X.tr pn xe) body (tb W))
    (first : ∀ (a : Addr) (o : Obj) (cls : Value) (d : Option Addr) (pn : List (Addr × Obj)), Zc cls d o → (∃ vs, o.data = .fields vs) → PSs (X.suite a ((a, o) :: pn)) (b1 :: suite) (ts a cls d)) (others : HdsOk X more l) :
    PS X (.Try body (.ExceptHandler (some (.Name x np)) (some n) (b1 :: suite) p3 :: more) [] [] pos) (fun D σ H => tb (wLen X.N.length (wAsM X.K c i ts (fun D => wMany X.K Wout D l) D)) D σ H) := by
  refine ⟨fun pins s σ H D I0 h => ?_⟩
  have ok := I0.ok
  have fa : X.A.frames = some (X.env :: X.outer) := by rw [ok.frames, st]
  have lc : Loc X.env.scope n := .inl kd
  refine wpAny_Try_except ?_
  refine wpAny_mono ((inner (wLen X.N.length (wAsM X.K c i ts (fun D => wMany X.K Wout D l) D)) (X.pn ++ pins) (fun e s1 => wpAny (model X.prog X.w) X.A (noteFrame e X.env) (fun _ s2 => wpAny (model X.prog X.w) X.A (setFlight e none) (fun _ s3 =>
    wpAny (model X.prog X.w) X.A (handleBy e X.env (.ExceptHandler (some (.Name x np)) (some n) (b1 :: suite) p3 :: more)) (SP X pins D) X.xe s3) X.xe s2) X.xe s1) (fun u s' q => ?_) PassesOwn.looking).run [] s σ H D (I0.toTry _) h) (fun f s1 q => ?_) (fun e s1 q => q)
  · obtain ⟨a, B, sI, pins', σ', H', cls, d, rfl, J', nb, up, sky, na, os, ag, w⟩ := q
    have J0 : Inv X pins σ' H' sI := J'.ofTry ok
    have sk : Sky B (X.env :: X.outer) a (Zc cls d) X.env.locals s'.heap := by rw [← st]; exact sky
    show wpAny (model X.prog X.w) X.A (noteFrame (.ref a) X.env) _ _ _
    refine Sky.land Zc.steady fa fr sk fun h1 g1 u1 => ?_
    have J1 : Inv X pins σ' H' { s' with heap := h1 } := J0.landed nb g1.1 (up.trans u1) os ag
    obtain ⟨o1, v1, e1, z1, d1⟩ := g1.there
    have off : a ∉ frs (X.env :: X.outer) := fun hm => by
      obtain ⟨_, o', e', nf⟩ := g1.2.2.1.mem hm
      rw [e1] at e'
      cases e'
      exact nf _ d1
    have nL : a ≠ X.env.locals := fun z => off (List.mem_filterMap.mpr ⟨X.env, List.mem_cons_self, by rw [fr, z]⟩)
    have nF : a ∉ X.fs := fun hm => by
      obtain ⟨e, he, q⟩ := List.mem_filterMap.mp hm
      exact off (List.mem_filterMap.mpr ⟨e, List.mem_cons_of_mem _ he, q⟩)
    have S1 := J1.suite e1 d1 na nL nF
    have L1 : PySem.W.Looks (model X.prog X.w) h1 (typeOf (.ref a)) cls := fun A Q E s k q => wpAny_typeOf_ref (k _ _ e1) (by rw [z1.1]; exact q)
    have asks : ∀ {y : Str} {cv : Value} {yp : Pos} {Q : Value → Shared → Prop} {E : Value → Shared → Prop}, Names X y cv → Q cv { s' with heap := h1 } → wpAny (model X.prog X.w) (X.A.mark (some (.ref a))) (eval (.Name y yp) X.env) Q E { s' with heap := h1 } := fun {y cv yp Q E} nm q => by
      obtain ⟨hg, hb, hm | ⟨hm, hv, hn⟩⟩ := nm
      · exact ld_glob (X := X.suite a ((a, o1) :: (X.pn ++ pins))) S1 hg hm q hb
      · exact ld_blt (X := X.suite a ((a, o1) :: (X.pn ++ pins))) S1 hg hm hv q hn hb
    have rest : ∀ {hs : List ExceptHandler} {l' : List (Value × (Addr → Value → Option Addr → TS))}, HdsOk X hs l' → wMany X.K Wout D l' cls d σ' H' →
        wpAny (model X.prog X.w) X.A (handleBy (.ref a) X.env hs) (SP X pins D) X.xe { s' with heap := h1 } := by
      intro hs l' hk
      induction hk with
      | nil =>
        intro w
        refine wpAny_handleBy_nil ?_
        obtain ⟨k1, k2, k3, oe, vs, T, oT, ts', he, hz, hd, f1, hr⟩ := id g1
        unfold PySem.passOn
        refine wpAny_bind (wpAny_field he hd f1 ?_)
        rw [if_neg (show ¬ ((Value.ref T == Value.none) = true) from by simp)]
        have out : wpAny (model X.prog X.w) X.A (setFlight (.ref a) X.env.frame) (fun _ s4 => wpAny (model X.prog X.w) X.A (throw (.ref a) : Sem Flow) (SP X pins D) X.xe s4) X.xe { s' with heap := h1 } := by
          rw [fr]
          exact HandSPX.setFlight_upZ g1 fun h2 b2 u2 => wpAny_throw (tk _ _ ⟨a, B, sI, pins, σ', H', cls, d, rfl, J0, nb, (up.trans u1).trans u2, .inr (.inr (by rw [st]; exact b2)), na, os, ag, w⟩)
        first
          | exact wpAny_bind (wpAny_pure (wpAny_bind out))
          | exact wpAny_bind out
      | @cons y cv ts2 c1 suite2 yp p4 more2 l2 nm2 hsu r ih =>
        intro w
        obtain ⟨b, hb1, yes, no⟩ := w
        refine wpAny_handleBy_cons (codeAny_handlers_test ?_) (by intro q; cases q)
        refine asks nm2 ((PySem.W.exm_one (M := model X.prog X.w) J1.kIn L1 hb1).here ?_)
        cases b with
        | true =>
          refine codeAny_handlers_suite ?_
          refine HandSPX.lands_againZ g1 fun h2 g2 u2 => ?_
          have J2 : Inv X pins σ' H' { s' with heap := h2 } := J0.landed nb g2.1 ((up.trans u1).trans u2) os ag
          obtain ⟨o2, v2, e2, z2, d2⟩ := g2.there
          refine wpAny_mono ((hsu a o2 cls d (X.pn ++ pins) z2 ⟨_, d2⟩).run [] _ _ H' _ (J2.suite e2 d2 na nL nF) (yes rfl a na)) (fun f s6 q => ?_) (fun _ _ z => False.elim z)
          cases f with
          | ret u =>
            obtain ⟨v6, σ6, H6, S6, r6, q6⟩ := q
            exact ⟨_, _, _, S6.unsuite ok, r6, q6⟩
          | next => obtain ⟨σ6, H6, S6, q6⟩ := q; exact ⟨_, _, S6.unsuite ok, q6⟩
          | brk => obtain ⟨σ6, H6, S6, q6⟩ := q; exact ⟨_, _, S6.unsuite ok, q6⟩
          | cont => obtain ⟨σ6, H6, S6, q6⟩ := q; exact ⟨_, _, S6.unsuite ok, q6⟩
        | false =>
          show wpAny _ X.A (handleBy (.ref a) X.env more2) _ _ _
          exact ih (no rfl)
    obtain ⟨b, hb1, yes, no⟩ := w J0.len
    refine wpAny_handleBy_cons (codeAny_handlers_test ?_) (by intro q; cases q)
    refine asks nm ((PySem.W.exm_one (M := model X.prog X.w) J1.kIn L1 hb1).here ?_)
    cases b with
    | false =>
      show wpAny _ X.A (handleBy (.ref a) X.env more) _ _ _
      exact rest others (no rfl)
    | true =>
      refine codeAny_handlers_suite_as ?_
      refine HandSPX.lands_againZ g1 fun h2 g2 u2 => ?_
      have J2 : Inv X pins σ' H' { s' with heap := h2 } := J0.landed nb g2.1 ((up.trans u1).trans u2) os ag
      obtain ⟨o2, v2, e2, z2, d2⟩ := g2.there
      refine store_ok (X := X.suite a ((a, o2) :: (X.pn ++ pins))) (v := .ref a) (J2.suite e2 d2 na nL nF) nd ni lc rfl (fun s5 S5 => ?_) (.inr kd)
      refine wpAny_mono ((first a o2 cls d (X.pn ++ pins) z2 ⟨_, d2⟩).run [] s5 _ H' _ S5 (yes rfl a na)) (fun f s6 q => ?_) (fun _ _ z => False.elim z)
      have gone : ∀ {σ6 : L2.St} {H6 : Hp} {Q : Shared → Prop}, Inv (X.suite a ((a, o2) :: (X.pn ++ pins))) [] σ6 H6 s6 → (∀ s7, Inv X pins (σ6.set i none) H6 s7 → Q s7) →
          wpAny (model X.prog X.w) X.A (do bindName X.env n .none; unbindBehindTheSuite X.env n p3) (fun _ s7 => Q s7) X.xe s6 := fun {σ6 H6 Q} S6 hq => gone_ok (S6.unsuite ok) nd ni kd hq
      cases f with
      | ret u =>
        obtain ⟨v6, σ6, H6, S6, r6, q6⟩ := q
        exact gone S6 fun s7 J7 => ⟨_, _, _, J7, r6, q6⟩
      | next => obtain ⟨σ6, H6, S6, q6⟩ := q; exact gone S6 fun s7 J7 => ⟨_, _, J7, q6⟩
      | brk => obtain ⟨σ6, H6, S6, q6⟩ := q; exact gone S6 fun s7 J7 => ⟨_, _, J7, q6⟩
      | cont => obtain ⟨σ6, H6, S6, q6⟩ := q; exact gone S6 fun s7 J7 => ⟨_, _, J7, q6⟩
  · cases f with
    | ret u =>
      obtain ⟨v, σ', H', J', r, q⟩ := q
      exact ⟨v, σ', H', J'.ofTry ok, r, q⟩
    | next => obtain ⟨σ', H', J', q⟩ := q; exact wpAny_execs_nil ⟨σ', H', J'.ofTry ok, q⟩
    | brk => obtain ⟨σ', H', J', q⟩ := q; exact ⟨σ', H', J'.ofTry ok, q⟩
    | cont => obtain ⟨σ', H', J', q⟩ := q; exact ⟨σ', H', J'.ofTry ok, q⟩
end

/-- a block by a reading that is chosen when its slots and heap are known -/
theorem pss_some {X : Cx} {b : List Stmt} {ts : TS} (h : ∀ D σ H, ts D σ H → ∃ t, PSs X b t ∧ t D σ H) : PSs X b ts := ⟨fun pins s σ H D I q => by
  obtain ⟨t, p, z⟩ := h D σ H q
  exact p.run pins s σ H D I z⟩
theorem pe_some {X : Cx} {e : Expr} {te : TE} (h : ∀ σ H Q, te σ H Q → ∃ t, PE X e t ∧ t σ H Q) : PE X e te := ⟨fun pins s σ H Q I q => by
  obtain ⟨t, p, z⟩ := h σ H Q q
  exact p.run pins s σ H Q I z⟩

/-! ### a def called while an exception is handled: it raises nothing -/
structure FnW (P : Program) (w : World) (K : PySem.W.Frag) (mg : Str → Option Value) (base : Heap) (k : Nat) (f : Addr) (fd : FuncData) (ps : List Str) (sp : Sp) : Prop where
  len : ∀ vs H Q E, sp vs H Q E → vs.length = ps.length
  run : ∀ (A : Around) (outer : List Env) (s : Shared) (H : Hp) (args : Args) (us : List Value) (vs : List V) (Q : VK) (p : Addr × Obj), L2H.RoomH k A → L2H.PinOk outer H s p → Env0 P w K mg base A outer s H → BindsTo s fd args (ps.zip us) → Vals vs us → sp vs H Q E0 →
    codeAny (model P w) A (.call (.ref f) args) (CR CX0 outer P w H s Q E0) s
section
variable {P : Program} {w : World} {K : PySem.W.Frag} {mg : Str → Option Value} {base : Heap} {x qual : Str} {params : Arguments} {body : List Stmt} {scope : Scope} {dvs : List V} {kws : List (Str × V)} {f : Addr} {fd : FuncData}
theorem fnW_of {N ps : List Str} {k : Nat} {sp : Sp} (F : FunD K x qual params body scope dvs kws f fd) (S : FnScope N ps scope) (len : ∀ vs H Q E, sp vs H Q E → vs.length = ps.length)
    (hbody : ∀ (cdv : Value) (A : Around) (outer : List Env) (s : Shared) (H : Hp) (vs : List V) (Q : VK) (p : Addr × Obj), L2H.RoomH k (A.deeper (envOfC qual scope s.heap.objs.size f cdv)) → sp vs H Q E0 →
      ∃ t, PSs (L2H.cxH CX0 P w K mg base N qual scope f cdv A outer s H E0 p) body t ∧ t { nx := fun _ H' => Q .non H', rt := Q } (L2.start N vs) H) : FnW P w K mg base (k + 1) f fd ps sp := by
  obtain ⟨oc, od, dV, kV, doc, pm, an, cdv, ct, osl, rfl, lk, cd, _, _⟩ := F.ex
  refine ⟨len, fun A outer s H args us vs Q p room pin env bd rel told => ?_⟩
  have ln := len _ _ _ _ told
  have KX : K.In s.heap := env.mod.kin.keeps fun b o e => (env.bs b o e).1
  have kinds : ∀ y ∈ ps.zip us, scope.names.lookup y.1 = some .local ∨ (scope.names.lookup y.1 = some .cell ∧ ((cellsFrom (s.heap.objs.size + 1) scope.names []).lookup y.1).isSome = true) := fun ⟨m, v⟩ hy =>
    (S.par m (List.of_mem_zip hy).1).imp id fun q => ⟨q, PySem.W.cellsFrom_some _ _ _ (.inl q)⟩
  refine codeAny_call_function room.depth (KX _ _ lk) rfl S.co S.gen rfl (PySem.W.codeRec_of KX cd) (bd _ _ _ _ ?_)
  refine wpAny_newFunctionEnv_cells S.kind kinds fun en he s1 inC => ?_
  subst he
  refine ⟨(env.mod.nolimit.keeps fun b o e => (env.bs b o e).1).keeps inC.toInCall.keep, codeAny_func ?_⟩
  obtain ⟨t, ht, hq⟩ := hbody cdv A outer s H vs Q p (room.deeper _) told
  have I0 := L2H.inv_startH (CX := CX0) (E := E0) S pin env ln rel inC
  refine wpAny_mono (ht.run [] s1 (L2.start N vs) H _ I0 hq) (fun fl s' hs => ?_) fun e s' hs => hs
  cases fl with
  | ret u =>
    obtain ⟨v, σ', H', J, rv, q⟩ := hs
    exact ⟨v, H', J.os, J.bare, J.base, J.hok, rv, q⟩
  | next =>
    obtain ⟨σ', H', J, q⟩ := hs
    exact ⟨V.non, H', J.os, J.bare, J.base, J.hok, rfl, q⟩
  | brk => obtain ⟨_, _, _, q⟩ := hs; exact q.elim
  | cont => obtain ⟨_, _, _, q⟩ := hs; exact q.elim
/-- told() of one text, there -/
theorem told_okW {t : Str} {j : Nat} {p p2 : Pos} (F : FunD K "told" qual params [.Return (some (.Constant (.str t) j p)) p2] scope [] [] f fd) (S : FnScope ["self"] ["self"] scope) : FnW P w K mg base 1 f fd ["self"] (spTold t) := by
  refine fnW_of F S (fun vs H Q E h => ?_) (fun cdv A outer s H vs Q pp hr h => ?_)
  · obtain ⟨v, rfl, _⟩ := h
    rfl
  · obtain ⟨v, rfl, q⟩ := h
    exact ⟨_, pss_one (ps_ret pe_str), q⟩
end
section
variable {X : Cx} {a C f : Addr} {o1 : Obj} {pn : List (Addr × Obj)} {d : Option Addr} {m : Str} {fd : FuncData} {sp : Sp} {k : Nat}
/-- the caught error as an instance -/
theorem caught_inst {pins : List (Addr × Obj)} {σ : L2.St} {H : Hp} {s : Shared} (I : Inv (X.suite a ((a, o1) :: pn)) pins σ H s) (z : Zc (.ref C) d o1) (fl : ∃ vs, o1.data = .fields vs) (hd : ∀ dx, d = some dx → ∃ fs, H dx = some (exd dx fs) ∧ fs.lookup m = none) :
    ∃ od, PySem.W.InstAt s.heap a o1 C od ∧ PySem.W.shadowIn od m = some false := by
  obtain ⟨g, _⟩ := I.pin (a, o1) (List.mem_append_left _ List.mem_cons_self)
  obtain ⟨vs, hv⟩ := fl
  have nc : PySem.W.notCls o1 = true := by unfold PySem.W.notCls; rw [hv] <;> rfl
  cases d with
  | none => exact ⟨none, ⟨g, z.1, nc, by rw [z.2]; trivial⟩, rfl⟩
  | some dx =>
    obtain ⟨fs, e, lk⟩ := hd dx rfl
    obtain ⟨mA, ns, rel⟩ := exd_at I.hok e
    obtain ⟨od, h2, hk⟩ := lookIn_ns ns
    refine ⟨some od, ⟨g, z.1, nc, by rw [z.2]; exact h2⟩, ?_⟩
    have hm : mA m = none := by
      have r := rel m
      rw [lk] at r
      cases y : mA m with
      | none => rfl
      | some v => rw [y] at r; exact r.elim
    show (PySem.W.lookIn m od).map _ = _
    rw [hk, hm]
    rfl
def tToldC (a : Addr) (d : Option Addr) (m : Str) (sp : Sp) (te : TE) : TE := fun σ H Q => te σ H fun x H1 => x = .ref a ∧ (∀ dx, d = some dx → ∃ fs, H1 dx = some (exd dx fs) ∧ fs.lookup m = none) ∧ sp [.ref a] H1 Q E0
/-- e.m() of the caught error e -/
theorem pe_toldC {o : Expr} {te : TE} {pos apos : Pos} {pl : Sem Bool} (T : IsC X.K C) (M : Meth X.K C m f) (F : FnW X.prog X.w X.K X.mg X.base k f fd ["self"] sp) (hb : L2.Binds X.K fd ["self"] []) (hr : L2H.RoomH k X.A) (z : Zc (.ref C) d o1) (fl : ∃ vs, o1.data = .fields vs)
    (he : PE (X.suite a ((a, o1) :: pn)) o te)
    (ht : eval (.Call (.Attribute o m apos) [] [] pos) X.env = (do
      let ov ← eval o X.env
      standAt apos.atName
      let (f, first) ← holding [ov] (getMethod ov m pl)
      callWith pos f first (backTo pos (starEach [] X.env)) (backToKw pos (keywordEach [] X.env))) := by rfl) :
    PE (X.suite a ((a, o1) :: pn)) (.Call (.Attribute o m apos) [] [] pos) (tToldC a d m sp te) := by
  refine ⟨fun pins s σ H Q I h => ?_⟩
  refine PySem.W.methodCall_KW (pl := pl) (thn (he.run pins s σ H _ I h) fun u s1 hh => ?_) ht
  obtain ⟨x, H1, I1, rx, rfl, hd, q⟩ := hh
  obtain rfl : u = Value.ref a := rx
  obtain ⟨mm, fr⟩ := I1.fr
  obtain ⟨od, J, sh⟩ := caught_inst I1 z fl hd
  refine PySem.W.method_exc fr I1.ok.mod.kin J T.ga T.gg M.at_ M.fn sh (PySem.W.callWith_K0 (first := [.ref a]) I1.kIn M.kp ?_)
  have pin := I1.pin (a, o1) (List.mem_append_left _ List.mem_cons_self)
  have pk : L2H.PinOk (X.suite a ((a, o1) :: pn)).stack H1 s1 (a, o1) := ⟨pin.1, pin.2.1, fun hm => (List.mem_cons.mp (I1.stkSub _ hm)).elim pin.2.2.1 pin.2.2.2.1, pin.2.2.2.2⟩
  have room : L2H.RoomH k (X.suite a ((a, o1) :: pn)).A := ⟨hr.dp, hr.un⟩
  have bd := hb s1 [.ref a] I1.kIn rfl
  refine wpAny_call (codeAny_mono (F.run _ _ s1 H1 ⟨[.ref a], []⟩ [.ref a] [.ref a] Q (a, o1) room pk I1.env0 (by simpa using bd) (.cons rfl .nil) q) fun r s' hq => ?_)
  cases r with
  | error e => exact (show False from hq).elim
  | ok fl' =>
    cases fl' with
    | ret u => exact I1.after hq
    | next => exact hq.elim
    | brk => exact hq.elim
    | cont => exact hq.elim
/-- isinstance(e, c), e the caught error -/
def rIsC (K : PySem.W.Frag) (a C : Addr) (d : Option Addr) : List V → Hp → VK → Prop := fun xs H Q => ∃ (c : V) (cv : Value) (b : Bool),
  xs = [.ref a, c] ∧ ClsV c cv ∧ (∀ dx, d = some dx → ∃ fs, H dx = some (exd dx fs) ∧ fs.lookup ("__class__" : Str) = none) ∧ PySem.W.kitOne K (.ref C) cv = some b ∧ Q (.bl b) H
theorem call_isC (T : IsC X.K C) (z : Zc (.ref C) d o1) (fl : ∃ vs, o1.data = .fields vs) : CallR (X.suite a ((a, o1) :: pn)) (.builtin "isinstance") (rIsC X.K a C d) := by
  intro pins s σ H xs us Q I r h
  obtain ⟨c, cv, b, rfl, k, hd, e, q⟩ := h
  obtain ⟨u1, u2, rfl, r1, r2⟩ := vals2 r
  obtain rfl := k.eq r2
  obtain rfl : u1 = Value.ref a := r1
  obtain ⟨od, J, _⟩ := caught_inst I z fl hd
  exact PySem.W.kia_one (PySem.W.kitx_exc (od := od) T.cl T.ga T.gg T.sb T.ca T.sg T.tk T.ob) I.kIn J e (fun z => nomatch z)
    fun tk => ⟨.bl b, H, I.kept (t' := tk) fun _ _ z => z, rfl, q⟩
end
end Lf

set_option Elab.async false
set_option linter.all false
set_option maxRecDepth 100000
set_option maxHeartbeats 4000000
/-! raise X(e) of an own class with its __init__; try with clauses of which any may have `as`; repr of data. -/
namespace Lf
open PySem PySem.Spec PyProof.Rows L2
/-- raise X(e) -/
def tMk1 (C : Addr) (fl : Str) (ta : TE) : L2.St → Hp → XK → Prop := fun σ H Q => ta σ H fun v H1 => ∀ d H', H1 d = none → Same H1 H' → H' d = some (.xd [(fl, v)]) → Q (.ref C) (some d) H'
theorem pmk_err1 {X : Cx} {x fl t : Str} {e : Expr} {ta : TE} {p pos : Pos} (E : Err1 X.prog X.w X.K X.mg X.base x fl t) (hr : Room 2 X.A) (hg : Gl X x) (ha : PE X e ta)
    (hdb : (x == ("__debug__" : Str)) = false := by decide) (hs : starEach [e] X.env = (false, eval e X.env) :: starEach [] X.env := by rfl) :
    PMk X (.Call (.Name x p) [e] [] pos) (tMk1 (He.ga X.K x) fl ta) := by
  obtain ⟨fI, fd, i1, i2, F, b⟩ := E.ini
  have M := pmk_oex (X := X) (pos := pos) (p := p) (dvs := []) E.c.o i1 i2 F hr b .nil pass0 hg E.g (pa_cons (PE.up ha) pa_nil hs) hdb hs rfl
  intro pins s σ H Q I h
  refine M pins s σ H Q I ?_
  refine ⟨_, h, fun v H1 k => ⟨(by show 1 ≤ 1000; decide), fun a na => ⟨a, v, rfl, upd_same, fun d nd ne => ?_⟩⟩⟩
  have nd1 : H1 d = none := by rw [upd_ne ne] at nd; exact nd
  refine ⟨rfl, d, [(fl, v)], upd_same, by rw [upd_ne ne]; exact upd_same, nd1, ?_⟩
  refine k d _ nd1 (fun b o q => ?_) upd_same
  have n1 := ne_of_none q na
  have n2 := ne_of_none q nd1
  rw [upd_ne n2, del_ne n1, upd_ne n1, upd_ne n2, upd_ne n1]
  exact q
/-! ### clauses, with a name or without -/
abbrev Cl := Value × Option Nat × (Addr → Value → Option Addr → TS)
def asEnds (i : Nat) (D : Ends) : Ends := ⟨fun σ' H' => D.nx (σ'.set i none) H', D.rt, fun σ' H' => D.bk (σ'.set i none) H', fun σ' H' => D.ct (σ'.set i none) H'⟩
def wA (K : PySem.W.Frag) (Wout : WX) (D : Ends) : List Cl → WX
  | [] => Wout
  | (c, none, ts) :: r => fun cls d σ H => ∃ b, PySem.W.exmOne K cls c = some b ∧ (b = true → ∀ a, H a = none → ts a cls d D σ H) ∧ (b = false → wA K Wout D r cls d σ H)
  | (c, some i, ts) :: r => fun cls d σ H => ∃ b, PySem.W.exmOne K cls c = some b ∧ (b = true → ∀ a, H a = none → ts a cls d (asEnds i D) (σ.set i (some (.ref a))) H) ∧ (b = false → wA K Wout D r cls d σ H)
inductive HdA (X : Cx) : List ExceptHandler → List Cl → Prop
  | nil : HdA X [] []
  | plain {x : Str} {c : Value} {ts : Addr → Value → Option Addr → TS} {b1 : Stmt} {suite : List Stmt} {np p3 : Pos} {hds : List ExceptHandler} {l : List Cl} (nm : Names X x c)
      (hsu : ∀ (a : Addr) (o : Obj) (cls : Value) (d : Option Addr) (pn : List (Addr × Obj)), Zc cls d o → (∃ vs, o.data = .fields vs) → PSs (X.suite a ((a, o) :: pn)) (b1 :: suite) (ts a cls d)) (r : HdA X hds l) :
      HdA X (.ExceptHandler (some (.Name x np)) none (b1 :: suite) p3 :: hds) ((c, none, ts) :: l)
  | as {x n : Str} {c : Value} {i : Nat} {ts : Addr → Value → Option Addr → TS} {b1 : Stmt} {suite : List Stmt} {np p3 : Pos} {hds : List ExceptHandler} {l : List Cl} (nm : Names X x c) (ni : X.N[i]? = some n) (kd : X.env.kindOf n = some .local)
      (hsu : ∀ (a : Addr) (o : Obj) (cls : Value) (d : Option Addr) (pn : List (Addr × Obj)), Zc cls d o → (∃ vs, o.data = .fields vs) → PSs (X.suite a ((a, o) :: pn)) (b1 :: suite) (ts a cls d)) (r : HdA X hds l) :
      HdA X (.ExceptHandler (some (.Name x np)) (some n) (b1 :: suite) p3 :: hds) ((c, some i, ts) :: l)
section
variable {X : Cx} {body : List Stmt} {h0 : ExceptHandler} {hds : List ExceptHandler} {l : List Cl} {pos : Pos} {tb : WX → TS} {Wout : WX}
theorem ps_tryA (st : X.stack = X.env :: X.outer) (fr : X.env.frame = some X.env.locals) (nd : X.N.Nodup) (tk : Takes X Wout)
    (inner : ∀ (W : WX) (pn : List (Addr × Obj)) (xe : Value → Shared → Prop), Takes (X.tr pn xe) W → PassesOwn (model X.prog X.w) X.A X.env xe → PSs (X.tr pn xe) body (tb W))
    (hh : HdA X (h0 :: hds) l) : PS X (.Try body (h0 :: hds) [] [] pos) (fun D σ H => tb (wLen X.N.length (wA X.K Wout D l)) D σ H) := by
  refine ⟨fun pins s σ H D I0 h => ?_⟩
  have ok := I0.ok
  have fa : X.A.frames = some (X.env :: X.outer) := by rw [ok.frames, st]
  refine wpAny_Try_except ?_
  refine wpAny_mono ((inner (wLen X.N.length (wA X.K Wout D l)) (X.pn ++ pins) (fun e s1 => wpAny (model X.prog X.w) X.A (noteFrame e X.env) (fun _ s2 => wpAny (model X.prog X.w) X.A (setFlight e none) (fun _ s3 =>
    wpAny (model X.prog X.w) X.A (handleBy e X.env (h0 :: hds)) (SP X pins D) X.xe s3) X.xe s2) X.xe s1) (fun u s' q => ?_) PassesOwn.looking).run [] s σ H D (I0.toTry _) h) (fun f s1 q => ?_) (fun e s1 q => q)
  · obtain ⟨a, B, sI, pins', σ', H', cls, d, rfl, J', nb, up, sky, na, os, ag, w⟩ := q
    have J0 : Inv X pins σ' H' sI := J'.ofTry ok
    have sk : Sky B (X.env :: X.outer) a (Zc cls d) X.env.locals s'.heap := by rw [← st]; exact sky
    show wpAny (model X.prog X.w) X.A (noteFrame (.ref a) X.env) _ _ _
    refine Sky.land Zc.steady fa fr sk fun h1 g1 u1 => ?_
    have J1 : Inv X pins σ' H' { s' with heap := h1 } := J0.landed nb g1.1 (up.trans u1) os ag
    obtain ⟨o1, v1, e1, z1, d1⟩ := g1.there
    have off : a ∉ frs (X.env :: X.outer) := fun hm => by
      obtain ⟨_, o', e', nf⟩ := g1.2.2.1.mem hm
      rw [e1] at e'
      cases e'
      exact nf _ d1
    have nL : a ≠ X.env.locals := fun z => off (List.mem_filterMap.mpr ⟨X.env, List.mem_cons_self, by rw [fr, z]⟩)
    have nF : a ∉ X.fs := fun hm => by
      obtain ⟨e, he, q⟩ := List.mem_filterMap.mp hm
      exact off (List.mem_filterMap.mpr ⟨e, List.mem_cons_of_mem _ he, q⟩)
    have S1 := J1.suite e1 d1 na nL nF
    have L1 : PySem.W.Looks (model X.prog X.w) h1 (typeOf (.ref a)) cls := fun A Q E s k q => wpAny_typeOf_ref (k _ _ e1) (by rw [z1.1]; exact q)
    have asks : ∀ {y : Str} {cv : Value} {yp : Pos} {Q : Value → Shared → Prop} {E : Value → Shared → Prop}, Names X y cv → Q cv { s' with heap := h1 } → wpAny (model X.prog X.w) (X.A.mark (some (.ref a))) (eval (.Name y yp) X.env) Q E { s' with heap := h1 } := fun {y cv yp Q E} nm q => by
      obtain ⟨hg, hb, hm | ⟨hm, hv, hn⟩⟩ := nm
      · exact ld_glob (X := X.suite a ((a, o1) :: (X.pn ++ pins))) S1 hg hm q hb
      · exact ld_blt (X := X.suite a ((a, o1) :: (X.pn ++ pins))) S1 hg hm hv q hn hb
    have rest : ∀ {hs : List ExceptHandler} {l' : List Cl}, HdA X hs l' → wA X.K Wout D l' cls d σ' H' →
        wpAny (model X.prog X.w) X.A (handleBy (.ref a) X.env hs) (SP X pins D) X.xe { s' with heap := h1 } := by
      intro hs l' hk
      induction hk with
      | nil =>
        intro w
        refine wpAny_handleBy_nil ?_
        obtain ⟨k1, k2, k3, oe, vs, T, oT, ts', he, hz, hd, f1, hr⟩ := id g1
        unfold PySem.passOn
        refine wpAny_bind (wpAny_field he hd f1 ?_)
        rw [if_neg (show ¬ ((Value.ref T == Value.none) = true) from by simp)]
        have out : wpAny (model X.prog X.w) X.A (setFlight (.ref a) X.env.frame) (fun _ s4 => wpAny (model X.prog X.w) X.A (throw (.ref a) : Sem Flow) (SP X pins D) X.xe s4) X.xe { s' with heap := h1 } := by
          rw [fr]
          exact HandSPX.setFlight_upZ g1 fun h2 b2 u2 => wpAny_throw (tk _ _ ⟨a, B, sI, pins, σ', H', cls, d, rfl, J0, nb, (up.trans u1).trans u2, .inr (.inr (by rw [st]; exact b2)), na, os, ag, w⟩)
        first
          | exact wpAny_bind (wpAny_pure (wpAny_bind out))
          | exact wpAny_bind out
      | @plain y cv ts2 c1 suite2 yp p4 more2 l2 nm2 hsu r ih =>
        intro w
        obtain ⟨b, hb1, yes, no⟩ := w
        refine wpAny_handleBy_cons (codeAny_handlers_test ?_) (by intro q; cases q)
        refine asks nm2 ((PySem.W.exm_one (M := model X.prog X.w) J1.kIn L1 hb1).here ?_)
        cases b with
        | true =>
          refine codeAny_handlers_suite ?_
          refine HandSPX.lands_againZ g1 fun h2 g2 u2 => ?_
          have J2 : Inv X pins σ' H' { s' with heap := h2 } := J0.landed nb g2.1 ((up.trans u1).trans u2) os ag
          obtain ⟨o2, v2, e2, z2, d2⟩ := g2.there
          refine wpAny_mono ((hsu a o2 cls d (X.pn ++ pins) z2 ⟨_, d2⟩).run [] _ _ H' _ (J2.suite e2 d2 na nL nF) (yes rfl a na)) (fun f s6 q => ?_) (fun _ _ z => False.elim z)
          cases f with
          | ret u =>
            obtain ⟨v6, σ6, H6, S6, r6, q6⟩ := q
            exact ⟨_, _, _, S6.unsuite ok, r6, q6⟩
          | next => obtain ⟨σ6, H6, S6, q6⟩ := q; exact ⟨_, _, S6.unsuite ok, q6⟩
          | brk => obtain ⟨σ6, H6, S6, q6⟩ := q; exact ⟨_, _, S6.unsuite ok, q6⟩
          | cont => obtain ⟨σ6, H6, S6, q6⟩ := q; exact ⟨_, _, S6.unsuite ok, q6⟩
        | false =>
          show wpAny _ X.A (handleBy (.ref a) X.env more2) _ _ _
          exact ih (no rfl)
      | @as y n cv i ts2 c1 suite2 yp p4 more2 l2 nm2 ni kd hsu r ih =>
        intro w
        obtain ⟨b, hb1, yes, no⟩ := w
        refine wpAny_handleBy_cons (codeAny_handlers_test ?_) (by intro q; cases q)
        refine asks nm2 ((PySem.W.exm_one (M := model X.prog X.w) J1.kIn L1 hb1).here ?_)
        cases b with
        | false =>
          show wpAny _ X.A (handleBy (.ref a) X.env more2) _ _ _
          exact ih (no rfl)
        | true =>
          refine codeAny_handlers_suite_as ?_
          refine HandSPX.lands_againZ g1 fun h2 g2 u2 => ?_
          have J2 : Inv X pins σ' H' { s' with heap := h2 } := J0.landed nb g2.1 ((up.trans u1).trans u2) os ag
          obtain ⟨o2, v2, e2, z2, d2⟩ := g2.there
          have lc : Loc X.env.scope n := .inl kd
          refine store_ok (X := X.suite a ((a, o2) :: (X.pn ++ pins))) (v := .ref a) (J2.suite e2 d2 na nL nF) nd ni lc rfl (fun s5 S5 => ?_) (.inr kd)
          refine wpAny_mono ((hsu a o2 cls d (X.pn ++ pins) z2 ⟨_, d2⟩).run [] s5 _ H' _ S5 (yes rfl a na)) (fun f s6 q => ?_) (fun _ _ z => False.elim z)
          have gone : ∀ {σ6 : L2.St} {H6 : Hp} {Q : Shared → Prop}, Inv (X.suite a ((a, o2) :: (X.pn ++ pins))) [] σ6 H6 s6 → (∀ s7, Inv X pins (σ6.set i none) H6 s7 → Q s7) →
              wpAny (model X.prog X.w) X.A (do bindName X.env n .none; unbindBehindTheSuite X.env n p4) (fun _ s7 => Q s7) X.xe s6 := fun {σ6 H6 Q} S6 hq => gone_ok (S6.unsuite ok) nd ni kd hq
          cases f with
          | ret u =>
            obtain ⟨v6, σ6, H6, S6, r6, q6⟩ := q
            exact gone S6 fun s7 J7 => ⟨_, _, _, J7, r6, q6⟩
          | next => obtain ⟨σ6, H6, S6, q6⟩ := q; exact gone S6 fun s7 J7 => ⟨_, _, J7, q6⟩
          | brk => obtain ⟨σ6, H6, S6, q6⟩ := q; exact gone S6 fun s7 J7 => ⟨_, _, J7, q6⟩
          | cont => obtain ⟨σ6, H6, S6, q6⟩ := q; exact gone S6 fun s7 J7 => ⟨_, _, J7, q6⟩
    exact rest hh (w J0.len)
  · cases f with
    | ret u =>
      obtain ⟨v, σ', H', J', r, q⟩ := q
      exact ⟨v, σ', H', J'.ofTry ok, r, q⟩
    | next => obtain ⟨σ', H', J', q⟩ := q; exact wpAny_execs_nil ⟨σ', H', J'.ofTry ok, q⟩
    | brk => obtain ⟨σ', H', J', q⟩ := q; exact ⟨σ', H', J'.ofTry ok, q⟩
    | cont => obtain ⟨σ', H', J', q⟩ := q; exact ⟨σ', H', J'.ofTry ok, q⟩
end
/-! ### repr of data -/
theorem call_reprD {X : Cx} (hg : X.A.guards = some []) (hu : X.A.units + 9 < cLine) : CallR X (.builtin "repr") (fun xs H Q => ∃ v d, xs = [v] ∧ Dp X.K H v d ∧ d.showable = true ∧ d.hasDict = false ∧ d.depth ≤ 7 ∧ d.shown.length ≤ sizeLine ∧ Q (.str d.shown) H) := by
  intro pins s σ H xs us Q I r h
  obtain ⟨v, d, rfl, hd, sh, nd, dp, hz, q⟩ := h
  obtain ⟨u, rfl, rv⟩ := vals1 r
  obtain ⟨as, rd⟩ := Dp.reads I d v u hd rv
  cases rd with
  | none => exact P.repr_of_none ⟨.str "None", H, I.tok _, ⟨_, rfl⟩, q⟩
  | bool b =>
    refine P.repr_of_bool ⟨.str _, H, I.tok _, ⟨_, rfl⟩, ?_⟩
    exact q
  | int i t =>
    refine P.repr_of_int (by simpa [PyData.showable] using sh) ⟨.str _, H, I.tok _, ⟨_, rfl⟩, ?_⟩
    exact q
  | str x t =>
    refine P.repr_of_str ⟨.str _, H, I.tok _, ⟨_, rfl⟩, ?_⟩ hz
    exact q
  | list h1 h2 h3 h4 =>
    refine repr_of_reads' (h₀ := s.heap) (.list h1 h2 h3 h4) sh (fun z => by rw [nd] at z; cases z) hg (by omega) (fun _ _ z => z) (fun h' u tk hk => ?_) hz
    exact ⟨.str _, H, I.kept hk, ⟨u, rfl⟩, q⟩
  | tuple h1 h2 h3 h4 =>
    refine repr_of_reads' (h₀ := s.heap) (.tuple h1 h2 h3 h4) sh (fun z => by rw [nd] at z; cases z) hg (by omega) (fun _ _ z => z) (fun h' u tk hk => ?_) hz
    exact ⟨.str _, H, I.kept hk, ⟨u, rfl⟩, q⟩
  | dict h1 h2 h3 h4 h5 => rw [PyData.hasDict] at nd; cases nd
end Lf

set_option Elab.async false
set_option linter.all false
set_option maxRecDepth 100000
set_option maxHeartbeats 4000000
/-! raise X(e) and raise X(e, g) where nothing stands of told; either of two readings; whether a thing is a list or a tuple. -/
namespace Lf
open PySem PySem.Spec PyProof.Rows L2
section
variable (P : Program) (w : World) (K : PySem.W.Frag) (mg : Str → Option Value) (base : Heap)
structure Ini1 (x fl : Str) : Prop where
  g : mg x = some (.ref (He.ga K x))
  c : ErrC K (He.ga K x)
  no : PySem.W.findIn K (.ref (He.ga K x)) fl = some none
  ini : ∃ fI fd, PySem.W.findIn K (.ref (He.ga K x)) "__init__" = some (some (.ref fI)) ∧ PySem.W.typeIn K (.ref fI) = some (.type "function") ∧
    FnOk P w K mg base CX0 1 fI fd ["self", fl] (spIni1 (He.ga K x) fl) ∧ Binds K fd ["self", fl] []
structure Ini2 (x fl gl : Str) : Prop where
  g : mg x = some (.ref (He.ga K x))
  c : ErrC K (He.ga K x)
  no : PySem.W.findIn K (.ref (He.ga K x)) fl = some none
  no2 : PySem.W.findIn K (.ref (He.ga K x)) gl = some none
  ini : ∃ fI fd, PySem.W.findIn K (.ref (He.ga K x)) "__init__" = some (some (.ref fI)) ∧ PySem.W.typeIn K (.ref fI) = some (.type "function") ∧
    FnOk P w K mg base CX0 1 fI fd ["self", fl, gl] (spIni2 (He.ga K x) fl gl) ∧ Binds K fd ["self", fl, gl] []
end
theorem pmk_ini1 {X : Cx} {x fl : Str} {e : Expr} {ta : TE} {p pos : Pos} (E : Ini1 X.prog X.w X.K X.mg X.base x fl) (hr : Room 2 X.A) (hg : Gl X x) (ha : PE X e ta)
    (hdb : (x == ("__debug__" : Str)) = false := by decide) (hs : starEach [e] X.env = (false, eval e X.env) :: starEach [] X.env := by rfl) :
    PMk X (.Call (.Name x p) [e] [] pos) (tMk1 (He.ga X.K x) fl ta) := by
  obtain ⟨fI, fd, i1, i2, F, b⟩ := E.ini
  have M := pmk_oex (X := X) (pos := pos) (p := p) (dvs := []) E.c.o i1 i2 F hr b .nil pass0 hg E.g (pa_cons (PE.up ha) pa_nil hs) hdb hs rfl
  intro pins s σ H Q I h
  refine M pins s σ H Q I ?_
  refine ⟨_, h, fun v H1 k => ⟨(by show 1 ≤ 1000; decide), fun a na => ⟨a, v, rfl, upd_same, fun d nd ne => ?_⟩⟩⟩
  have nd1 : H1 d = none := by rw [upd_ne ne] at nd; exact nd
  refine ⟨rfl, d, [(fl, v)], upd_same, by rw [upd_ne ne]; exact upd_same, nd1, ?_⟩
  refine k d _ nd1 (fun b o q => ?_) upd_same
  have n1 := ne_of_none q na
  have n2 := ne_of_none q nd1
  rw [upd_ne n2, del_ne n1, upd_ne n1, upd_ne n2, upd_ne n1]
  exact q
/-- raise X(e, g) -/
def tMk2 (C : Addr) (fl gl : Str) (ta tb : TE) : L2.St → Hp → XK → Prop := fun σ H Q => ta σ H fun v H1 => tb σ H1 fun u H2 => ∀ d H', H2 d = none → Same H2 H' → H' d = some (.xd [(gl, u), (fl, v)]) → Q (.ref C) (some d) H'
theorem pmk_ini2 {X : Cx} {x fl gl : Str} {e g : Expr} {c : V} {tb : TE} {p pos : Pos} (E : Ini2 X.prog X.w X.K X.mg X.base x fl gl) (hr : Room 2 X.A) (hg : Gl X x) (ha : PE X e (tC c)) (hb : PE X g tb)
    (hdb : (x == ("__debug__" : Str)) = false := by decide) (hs : starEach [e, g] X.env = (false, eval e X.env) :: starEach [g] X.env := by rfl) (hs2 : starEach [g] X.env = (false, eval g X.env) :: starEach [] X.env := by rfl) :
    PMk X (.Call (.Name x p) [e, g] [] pos) (tMk2 (He.ga X.K x) fl gl (tC c) tb) := by
  obtain ⟨fI, fd, i1, i2, F, b⟩ := E.ini
  have M := pmk_oex (X := X) (pos := pos) (p := p) (dvs := []) E.c.o i1 i2 F hr b .nil pass0 hg E.g (pa_cons ha (pa_cons (PE.up hb) pa_nil hs2) hs) hdb hs (by rw [hs2]; rfl)
  intro pins s σ H Q I h
  refine M pins s σ H Q I ?_
  refine ⟨_, h, fun u H1 k => ⟨(by show 2 ≤ 1000; decide), fun a na => ⟨a, c, u, rfl, upd_same, fun d nd ne => ?_⟩⟩⟩
  have nd1 : H1 d = none := by rw [upd_ne ne] at nd; exact nd
  refine ⟨rfl, d, [(gl, u), (fl, c)], by rw [upd_ne ne.symm]; exact upd_same, upd_same, nd1, ?_⟩
  refine k d _ nd1 (fun b o q => ?_) upd_same
  have n1 := ne_of_none q na
  have n2 := ne_of_none q nd1
  rw [upd_ne n2, del_ne n1, upd_ne n2, upd_ne n1, upd_ne n2, upd_ne n1]
  exact q
/-- either of two readings -/
theorem PE.or {X : Cx} {e : Expr} {t t' : TE} (h : PE X e t) (h' : PE X e t') : PE X e (fun σ H Q => t σ H Q ∨ t' σ H Q) := ⟨fun pins s σ H Q I q => by
  rcases q with q | q
  · exact h.run pins s σ H Q I q
  · exact h'.run pins s σ H Q I q⟩
/-- a list or a tuple of things, or what is none -/
inductive SeqK (K : PySem.W.Frag) (H : Hp) : V → Option (List V) → Prop
  | lst {a : Addr} {xs : List V} (h : SqL K H a xs) : SeqK K H (.ref a) (some xs)
  | tup {a : Addr} {xs : List V} (h : SqT K H a xs) : SeqK K H (.ref a) (some xs)
  | oth {x : V} {n : String} (ty : TyX K H x (.type n)) (e1 : kitB n "list" = some false) (e2 : kitB n "tuple" = some false) : SeqK K H x none
theorem SeqK.same {K : PySem.W.Frag} {H H' : Hp} {x : V} {o : Option (List V)} (e : Same H H') (h : SeqK K H x o) : SeqK K H' x o := by
  cases h with
  | lst h => exact .lst (L2.Same.seq e h)
  | tup h => exact .tup (Lf.SqT.same e h)
  | oth t q r => exact .oth (tyx_same e t) q r
theorem tyx_l {K : PySem.W.Frag} {H : Hp} {a : Addr} {xs : List V} (h : SqL K H a xs) : TyX K H (.ref a) (.type "list") := by
  rcases h with (h | ⟨o, h⟩) | ⟨o, its, n, hk, hc, _⟩
  · exact .base (.lst h)
  · exact .base (.frz h)
  · exact .kList hk hc
theorem tyx_t {K : PySem.W.Frag} {H : Hp} {a : Addr} {xs : List V} (h : SqT K H a xs) : TyX K H (.ref a) (.type "tuple") := by
  rcases h with (h | ⟨o, h⟩) | ⟨o, its, n, hk, hc, _⟩
  · exact .base (.tup h)
  · exact .fTuple h
  · exact .kTuple hk hc
theorem SeqK.ty {K : PySem.W.Frag} {H : Hp} {x : V} {o : Option (List V)} (h : SeqK K H x o) : ∃ n, TyX K H x (.type n) ∧ PySem.W.kitAny K (.type n) [.type "list", .type "tuple"] = some o.isSome := by
  cases h with
  | lst h => exact ⟨_, tyx_l h, kitAny_cons (kit_ty (b := "list") (r := true) (by decide +kernel)) (fun h => nomatch h) (fun _ => rfl)⟩
  | tup h => exact ⟨_, tyx_t h, kitAny_cons (kit_ty (b := "list") (r := false) (by decide +kernel)) (fun _ => kitAny_cons (kit_ty (b := "tuple") (r := true) (by decide +kernel)) (fun h => nomatch h) (fun _ => rfl)) (fun h => nomatch h)⟩
  | oth t q r => exact ⟨_, t, kitAny_cons (kit_ty q) (fun _ => kitAny_cons (kit_ty r) (fun _ => rfl) (fun h => nomatch h)) (fun h => nomatch h)⟩
theorem SeqK.len {K : PySem.W.Frag} {H : Hp} {x : V} {ys : List V} (h : SeqK K H x (some ys)) : ∃ a, x = .ref a ∧ (SqL K H a ys ∨ SqT K H a ys) := by
  cases h with
  | lst h => exact ⟨_, rfl, .inl h⟩
  | tup h => exact ⟨_, rfl, .inr h⟩
theorem NumK.list {K : PySem.W.Frag} {H : Hp} {a : Addr} {xs : List V} (h : SqL K H a xs) : NumK K H (.ref a) none := .oth (tyx_l h) (by decide +kernel)
/-- what a for asks of its turns -/
abbrev ForB (J : It) (g : TG) (tb : TS) (D : Ends) (σ : L2.St) (H : Hp) : Prop := ∃ W : Nat → Nat → L2.St → Hp → Prop, (∃ m, W 0 m σ H) ∧ ∀ i m σ H, W i m σ H →
      (J.stop i H ∧ D.nx σ H) ∨ (J.go i H ∧ ∃ N : L2.St → Hp → Prop, (∀ σ' H', N σ' H' → ∃ m', m' < m ∧ W (i + 1) m' σ' H') ∧ ∀ x H', J.yld i H x H' → g x σ H' fun σ2 H2 => tb { D with nx := N, ct := N, bk := D.nx } σ2 H2)
/-- for i, x in enumerate(xs), a list or a tuple that stays -/
theorem for_enum {K : PySem.W.Frag} {r : Addr} {xs : List V} {g : TG} {tb : TS} {D : Ends} {σ : L2.St} {H0 H : Hp} (sq : SqL K H0 r xs ∨ SqT K H0 r xs) (Pv : Nat → L2.St → Hp → Prop) (h0 : Pv 0 σ H) (hG : ∀ i σ' H', i ≤ xs.length → Pv i σ' H' → Same H0 H')
    (hs : ∀ i y σ' H', Pv i σ' H' → xs[i]? = some y → ∀ T, H' T = none → g (.ref T) σ' (upd H' T (.tup [.int (i : Nat), y])) fun σ2 H2 => tb { D with nx := Pv (i + 1), ct := Pv (i + 1), bk := D.nx } σ2 H2) (hd : ∀ σ H, Pv xs.length σ H → D.nx σ H) :
    (SqL K H r xs ∧ ForB (Ite K r) g tb D σ H) ∨ (SqT K H r xs ∧ ForB (Itet K r) g tb D σ H) := by
  rcases sq with sq | sq
  · refine .inl ⟨L2.Same.seq (hG 0 _ _ (Nat.zero_le _) h0) sq, for_it (walk_enumL (K := K) (a := r) (xs := xs)) Pv h0 (fun i σ' H' hi p => L2.Same.seq (hG i σ' H' hi p) sq) ?_ hd⟩
    rintro i x σ' H' H3 hi p ⟨T, y, rfl, nT, rfl, hy⟩
    exact hs i y σ' H' p hy T nT
  · refine .inr ⟨Lf.SqT.same (hG 0 _ _ (Nat.zero_le _) h0) sq, for_it (walk_enumT (K := K) (a := r) (xs := xs)) Pv h0 (fun i σ' H' hi p => Lf.SqT.same (hG i σ' H' hi p) sq) ?_ hd⟩
    rintro i x σ' H' H3 hi p ⟨T, y, rfl, nT, rfl, hy⟩
    exact hs i y σ' H' p hy T nT
end Lf

set_option Elab.async false
set_option linter.all false
set_option maxRecDepth 100000
set_option maxHeartbeats 8000000
namespace K67
open PySem PySem.Spec PyProof.Rows L2 Lf
def spWrong (K : PySem.W.Frag) : Sp := fun vs H Q _ => ∃ (a : Addr) (xs : List Nat) (n : Nat), vs = [.ref a, .int (n : Nat)] ∧ Sq K H a (xs.map nv) ∧ (∀ x ∈ xs, x < n) ∧ ∀ H', Same H H' → Q .non H'
/-- a word of letters below wd, of 300 at most -/
def isWd (wd : Nat) (cs : List Nat) : Bool := decide (cs.length ≤ 300) && cs.all fun c => decide (c ∈ (List.range wd).map fun i => 97 + i)
def okWd (wd : Nat) : Option Str → Bool
  | some z => isWd wd z.cps.toList
  | none => false
def spWord (K : PySem.W.Frag) : Sp := fun vs H Q _ => ∃ x o wd, vs = [x, .int (wd : Nat), .int 300] ∧ wd ≤ 4 ∧ TxtK K H x o ∧ (∀ z, o = some z → z.length ≤ 1000) ∧ ∀ H', Same H H' → Q (.bl (okWd wd o)) H'
abbrev teIn : TE := tOp (fun x y H Q => ∃ (c : Nat) (z : Str), x = .str ⟨#[c]⟩ ∧ y = .str z ∧ Q (.bl (decide (c ∈ z.cps.toList))) H) (tVar 4) (tVar 3)
theorem cutF {wd : Nat} (h : wd ≤ 4) : (cutS ("abcdef" : Str) none (some (wd : Nat))).cps.toList = (List.range wd).map fun i => 97 + i := by
  have : wd = 0 ∨ wd = 1 ∨ wd = 2 ∨ wd = 3 ∨ wd = 4 := by omega
  rcases this with rfl | rfl | rfl | rfl | rfl <;> decide +kernel
section
variable {P : Program} {w : World} {K : PySem.W.Frag} {mg : Str → Option Value} {base : Heap}
theorem scWrong : FnScope ["thing", "many", "place", "entry"] ["thing", "many"] (defScope s_wrong_place) := ⟨rfl, rfl, rfl, by decide +kernel, rfl, by decide +kernel, by decide +kernel⟩
theorem ok_wrong {f : Addr} {fd : FuncData} {q : Str} (F : FunD K "wrong_place" q (defArgs s_wrong_place) (defBody s_wrong_place) (defScope s_wrong_place) [] [] f fd) (zI : mg "isinstance" = none) (zl : mg "list" = none) (zt : mg "tuple" = none) (zE : mg "enumerate" = none)
    (DB : Def P w K mg base CX0 2 "is_between" ["thing", "least", "most"] spBtw) :
    FnOk P w K mg base CX0 3 f fd ["thing", "many"] (spWrong K) := by
  refine F.ok scWrong (fun vs H Q E h => ?_) (fun cdv A outer s H vs Q E hr h => ?_)
  · obtain ⟨a, xs, n, rfl, _⟩ := h
    rfl
  · obtain ⟨a, xs, n, rfl, sq, xl, k⟩ := h
    refine ⟨_, PSs.nox (pss_cons (ps_if (pt_not (pt_val (pe_callB call_isiT rfl zI PyProof.Rows.boot_isinstance (pa_cons (pv 0) (pa_cons (pe_tup (pa_cons (pe_bltn (v := .ty "list") rfl zl PyProof.Rows.boot_list rfl) (pa_cons (pe_bltn (v := .ty "tuple") rfl zt PyProof.Rows.boot_tuple rfl) pa_nil))) pa_nil))))) (pss_one ps_never) pss_nil)
      (pss_cons (ps_for PassesOwn.never rfl (pi_enumA rfl zE (pv 0)) (pg_tup rfl (pgs_cons (pg_name (i := 2) scWrong.nd rfl (.inl rfl)) (pgs_cons (pg_name (i := 3) scWrong.nd rfl (.inl rfl)) pgs_nil)))
        (pss_one (ps_if (pt_not (pt_val (pe_def DB hr pass0 rfl (pa_cons (pv 3) (pa_cons pe_int (pa_cons (pe_op op_sub (pv 1) pe_int) pa_nil)))))) (pss_one ps_never) pss_nil)))
      (pss_one (ps_ret pe_non)))), ?_⟩
    refine ⟨_, rfl, (by show 2 ≤ sizeLine; decide), fun p np => ?_⟩
    have sm := same_upd (o := .tup [.ty "list", .ty "tuple"]) np
    have sq' := sq.same sm
    have ty : ∃ t, TyX K (upd H p (.tup [.ty "list", .ty "tuple"])) (.ref a) t ∧ PySem.W.kitAny K t [.type "list", .type "tuple"] = some true := by
      rcases sq' with z | z
      · exact ⟨_, tyx_l z, any_lt.1⟩
      · exact ⟨_, tyx_t z, any_lt.2⟩
    obtain ⟨t, ty, ka⟩ := ty
    refine ⟨.ref a, p, _, t, _, true, rfl, upd_same, .cons (.ty _) (.cons (.ty _) .nil), ty, ka, _, rfl, ?_⟩
    generalize upd H p (.tup [.ty "list", .ty "tuple"]) = H1 at sm sq' ⊢
    clear ty
    refine ifF rfl ?_
    refine ⟨_, rfl, a, xs.map nv, rfl, ?_⟩
    refine for_enum (H0 := H1) sq' (fun i σ H' => ∃ v2 v3 : Option V, σ = [some (.ref a), some (.int (n : Nat)), v2, v3] ∧ Same H1 H') ⟨none, none, rfl, L2.Same.refl _⟩ (fun i σ H' _ ⟨_, _, _, e⟩ => e) ?_ ?_
    · rintro i y σ H' ⟨v2, v3, rfl, e⟩ hy T nT
      obtain ⟨x, hx, rfl⟩ := map_get hy
      have lx := xl x (List.mem_of_getElem? hx)
      refine ⟨T, _, rfl, SqT.of upd_same, rfl, _, _, rfl, _, _, rfl, rfl, ?_⟩
      refine ⟨_, rfl, _, rfl, _, 1, rfl, rfl, nv x, 0, _, rfl, True.intro, _, rfl, ?_⟩
      rw [btw_nv lx]
      exact ifF rfl ⟨_, _, rfl, e.trans (same_upd nT)⟩
    · rintro σ H' ⟨v2, v3, rfl, e⟩
      exact k _ (sm.trans e)
theorem scWord : FnScope ["thing", "letters", "most", "known", "letter"] ["thing", "letters", "most"] (defScope s_is_word) := ⟨rfl, rfl, rfl, by decide +kernel, rfl, by decide +kernel, by decide +kernel⟩
theorem ok_word {f : Addr} {fd : FuncData} {q : Str} {dv : List V} (F : FunD K "is_word" q (defArgs s_is_word) (defBody s_is_word) (defScope s_is_word) dv [] f fd) {t : Tok} (gL : mg "LETTERS" = some (.str ("abcdef" : Str) t)) (zI : mg "isinstance" = none) (zs : mg "str" = none) (zn : mg "len" = none) (za : mg "all" = none) :
    FnOk P w K mg base CX0 1 f fd ["thing", "letters", "most"] (spWord K) := by
  refine F.ok scWord (fun vs H Q E h => ?_) (fun cdv A outer s H vs Q E hr h => ?_)
  · obtain ⟨x, o, wd, rfl, _⟩ := h
    rfl
  · obtain ⟨x, o, wd, rfl, w4, tk, lz, k⟩ := h
    refine ⟨_, PSs.nox (pss_cons (ps_if (PW.pt (pw_or (pt_not (pt_val (pe_callB call_isi rfl zI PyProof.Rows.boot_isinstance (pa_cons (pv 0) (pa_cons (pe_bltn (v := .ty "str") rfl zs PyProof.Rows.boot_str rfl) pa_nil))))) (pw_or1 (PW.pt (pw_and (pt_cmpR op_notN (pv 2) pe_non (nomark _)) (pw_and1 (pt_cmpR op_gt (pe_callB call_len_str rfl zn boot_len (pa_cons (pv 0) pa_nil)) (pv 2) (nomark _)))))))) (pss_one (ps_ret pe_bl)) pss_nil)
      (pss_cons (ps_set (i := 3) scWord.nd rfl (.inr rfl) (pe_slice sl_str (pe_gstr rfl gL) po_none (po_some (pv 1))))
      (pss_one (ps_ret (pe_callB (cr_all rfl) rfl za (by decide +kernel) (pa_cons (pe_lc (own := [("letter", 4)]) (g := gName 4) (te := teIn) (by rfl) scWord.nd (pi_str (pv 0)) (blkOk_by (own := [("letter", 4)]) (N := ["thing", "letters", "most", "known", "letter"]) (sc := defScope s_is_word) (by decide +kernel)) (fun _ _ _ _ _ => pg_name (i := 4) scWord.nd rfl (Or.inl rfl)) (fun _ _ _ _ _ => pts_nil)
        (fun _ _ _ _ _ => by exact pe_cmpR op_in_sign (pv 4) (pv 3) (by rfl))) pa_nil)))))), ?_⟩
    obtain ⟨n, ty, kt⟩ := tk.ty
    refine ⟨_, rfl, x, .ty "str", _, _, _, rfl, .ty _, ty, kt, _, rfl, ?_⟩
    cases tk with
    | oth _ _ => exact ifT rfl (k H (L2.Same.refl _))
    | str z =>
      refine ifF rfl ?_
      refine ⟨_, rfl, rfl, _, rfl, ?_⟩
      refine ifT rfl ⟨_, rfl, z, rfl, by have := lz z rfl; show z.length ≤ 16777216; omega, _, rfl, _, _, rfl, rfl, _, rfl, ?_⟩
      obtain ⟨cs, rfl⟩ : ∃ cs, z = tx cs := ⟨_, tx_of z⟩
      have l2 := lz _ rfl
      rw [tx_len] at l2 ⊢
      by_cases h : cs.length ≤ 300
      · rw [show decide ((300 : Int) < (cs.length : Nat)) = false from decide_eq_false (by omega)]
        refine ifF rfl ?_
        refine ⟨_, rfl, (wd : Nat), rfl, ("abcdef" : Str), rfl, by decide, ?_⟩
        refine ⟨_, rfl, tx cs, rfl, fun D nD => ?_⟩
        refine lc_it (walk_str (z := tx cs)) (fun i Hd => But D H Hd ∧ Hd D = some (.lst (((cs.take i).map fun c => decide (c ∈ (List.range wd).map fun i => 97 + i)).map V.bl))) ⟨But.upd, upd_same⟩ (fun _ _ _ _ => True.intro) (fun i y Hd H' hi ⟨bd, hD⟩ ⟨e', c, hc, ey⟩ => ?_) (fun Hd ⟨bd, hD⟩ => ?_)
        · subst e' ey
          refine ⟨rfl, yesT ?_⟩
          have hc' : cs[i]? = some c := by
            unfold tx at hc
            rwa [List.getElem?_toArray] at hc
          refine ⟨_, rfl, _, rfl, c, _, rfl, rfl, ?_⟩
          rw [cutF w4]
          refine ⟨_, hD, ?_, But.trans bd But.upd, ?_⟩
          · rw [List.length_map, List.length_map, List.length_take]
            have := get_lt hc'
            show min i cs.length < 16777216
            omega
          · rw [upd_same, take_snoc hc', List.map_append, List.map_append]
            rfl
        · have sz : (tx cs).cps.size = cs.length := by simp [tx]
          rw [sz, List.take_length] at hD
          refine ⟨D, _, rfl, SqL.of hD, ?_⟩
          have e : (cs.map fun c => decide (c ∈ (List.range wd).map fun i => 97 + i)).all id = okWd wd (some (tx cs)) := by
            show _ = (decide (cs.length ≤ 300) && _)
            rw [decide_eq_true h, Bool.true_and, List.all_map]
            rfl
          rw [e]
          exact k _ (Same.but (L2.Same.refl _) nD bd)
      · rw [show decide ((300 : Int) < (cs.length : Nat)) = true from decide_eq_true (by omega)]
        have e : okWd wd (some (tx cs)) = false := by
          show (decide (cs.length ≤ 300) && _) = false
          rw [decide_eq_false h]
          rfl
        rw [e] at k
        exact ifT rfl (k H (L2.Same.refl _))
end
end K67

set_option Elab.async false
set_option linter.all false
set_option maxRecDepth 100000
set_option maxHeartbeats 4000000
/-! set(xs) of ints, a list or a tuple, repeated ones too; sorted(set(xs)). -/
namespace Lf
open PySem PySem.Spec PyProof.Rows L2
/-- the set at a is that of the first i numbers -/
def HasI (w : World) (h : Heap) (a : Addr) (ns : List Int) (i : Nat) : Prop := ∃ m, m ≤ i ∧ SetR w h a (fun k => decide (k ∈ ns.take i)) m
theorem ints_at : ∀ {us : List Value} {ns : List Int}, IntsAre us ns → ∀ (i : Nat) (v : Value), us[i]? = some v → ∃ t, v = .int (ns.getD i 0) t
  | _, _, .nil, i, v, h => by simp at h
  | _, _, .cons n t r, 0, v, h => ⟨t, by rw [← Option.some.inj h]; rfl⟩
  | _, _, .cons n t r, i + 1, v, h => by
    obtain ⟨t', e⟩ := ints_at r i v (by simpa using h)
    exact ⟨t', by rw [e]; rfl⟩
theorem ints_len : ∀ {us : List Value} {ns : List Int}, IntsAre us ns → us.length = ns.length
  | _, _, .nil => rfl
  | _, _, .cons n t r => by simp [ints_len r]
section
variable {P : Program} {w : World} {A : Around} {R : Result → Shared → Prop} {It : Addr} {fp wr : List Addr} {G : Array GenState → Array GenState → Prop} {n : Nat} {Pv : Nat → Value → Prop} {Sv : Nat → Shared → Prop}
theorem HasI.at {h h' : Heap} {a : Addr} {ns : List Int} {i : Nat} (r : HasI w h a ns i) (k : ∀ o, h.get? a = some o → h'.get? a = some o) : HasI w h' a ns i := by
  obtain ⟨m, le, r⟩ := r
  exact ⟨m, le, r.at k⟩
/-- the loop that fills a set of ints -/
theorem fillI (W : WalksS P w A.in1 It fp wr G n Pv Sv) {a : Addr} (off : a ∉ fp) {ns : List Int} (len : ns.length = n) (few : n + 1 < scanBound)
    (read : ∀ i v, Pv i v → ∃ t, v = .int (ns.getD i 0) t) : ∀ (m i : Nat) (s : Shared), i + m = n → Sv i s → HasI w s.heap a ns i →
      (∀ s', Moved (a :: wr) G s s' → HasI w s'.heap a ns n → R (.ok (.ret .none)) s') →
      codeAny (model P w) A (.builtin "set.update.loop" ⟨[.ref a, .ref It], []⟩) R s := by
  have offw : a ∉ wr := fun z => off (W.sub _ z)
  intro m
  induction m with
  | zero =>
    intro i s e st hs fin
    obtain rfl : i = n := by omega
    refine codeAny_builtin PyProof.Rows.F.entry_set_update_loop ?_
    rw [Around.under_plainId PyProof.Rows.F.plain_set_update_loop _]
    show wpAny _ _ (pyNext (.ref It) >>= _) _ _ _
    exact wpAny_bind (W.done s _ _ st fun s' mv => wpAny_pure (fin s' (mv.mono fun b hb => List.mem_cons_of_mem _ hb) (hs.at fun o z => mv.heap a o offw z)))
  | succ m ih =>
    intro i s e st hs fin
    have hi : i < n := by omega
    refine codeAny_builtin PyProof.Rows.F.entry_set_update_loop ?_
    rw [Around.under_plainId PyProof.Rows.F.plain_set_update_loop _]
    show wpAny _ _ (pyNext (.ref It) >>= _) _ _ _
    refine wpAny_bind (W.item i s _ _ hi st fun v s' pv st' mv => ?_)
    obtain ⟨t, rfl⟩ := read i v pv
    obtain ⟨c, lc, hs'⟩ := hs.at (h' := s'.heap) fun o z => mv.heap a o offw z
    show wpAny _ _ (holding [Value.int _ t] (setAdd a (.int _ t)) >>= _) _ _ _
    refine wpAny_bind (wpAny_holding ?_)
    unfold setAdd
    refine wpAny_holding (wpAny_bind ((PySem.intKind P w).pyHash (intKind_is _ _ _ _) ?_))
    refine setR_add_hashed (s := { s' with toks := s'.toks + 1 }) hs' (by omega) fun h' sb hs2 => ?_
    have hs3 : HasI w h' a ns (i + 1) := by
      refine ⟨_, ?_, hs2.congr fun k => ?_⟩
      · split <;> omega
      · have e : ns.take (i + 1) = ns.take i ++ [ns.getD i 0] := by
          rw [List.take_succ_eq_append_getElem (by omega), List.getD_eq_getElem?_getD, List.getElem?_eq_getElem (by omega)]
          rfl
        rw [e]
        simp
    refine wpAny_pure ⟨plainId_quiet PyProof.Rows.F.plain_set_update_loop _, ih (i + 1) _ (by omega) (W.frame _ s' _ _ st' (Nat.le_succ _) fun b hb o z => ?_) hs3 fun s2 mv2 q => fin s2 ?_ q⟩
    · rw [sb.2 b fun y => off (y ▸ hb)]
      exact z
    · refine Moved.trans W.gtrans ((mv.mono fun b hb => List.mem_cons_of_mem _ hb).then_heap (Nat.le_succ _) fun b o hb z => ?_) mv2
      rw [sb.2 b fun y => hb (by rw [y]; exact List.mem_cons_self)]
      exact z
end
abbrev ledOf (w : World) : Bool := !w.params.followText "set-order"
section
variable {P : Program} {w : World} {A : Around} {E : Value → Shared → Prop} {s : Shared} {l : Addr} {its : Array Value} {ns : List Int}
abbrev IntSet (w : World) (s : Shared) (ns : List Int) (s' : Shared) : Prop :=
  ∃ h' tk, s' = { s with heap := h', toks := tk } ∧ HasI w h' s.heap.objs.size ns ns.length ∧ ∀ b o, b < s.heap.objs.size → s.heap.get? b = some o → h'.get? b = some o
theorem startI {w : World} {h : Heap} {ns : List Int} : HasI w (h.push (emptySet (ledOf w))) h.objs.size ns 0 := ⟨0, Nat.le_refl _, (setR_fresh w).congr fun k => by simp⟩
theorem setInitIL {Q : Fin → Shared → Prop} (calm : A.handled = none) (hl : s.heap.IsList l its) (ht : IntsAre its.toList ns) (few : ns.length + 1 < scanBound)
    (h : ∀ s', IntSet w s ns s' → Q (.done (.ret .none)) s') :
    wpAny (model P w) A (Builtin.«set.__init__» ⟨[.ref s.heap.objs.size, .ref l], []⟩) Q E { s with heap := s.heap.push (emptySet (ledOf w)) } := by
  obtain ⟨⟨oc, od, odt, osl⟩, hol, hcl, nl, hdl⟩ := hl
  dsimp only at hcl hdl
  subst hcl hdl
  have hS : (s.heap.push (emptySet (ledOf w))).get? s.heap.objs.size = some (emptySet (ledOf w)) := Heap.get?_push_size _ rfl
  have hT : Shared.TypeIs { s with heap := s.heap.push (emptySet (ledOf w)) } (.ref s.heap.objs.size) "set" := ⟨_, hS, rfl⟩
  have hol' : (s.heap.push (emptySet (ledOf w))).get? l = some { cls := .type "list", dict := od, data := .seq its nl, slots := osl } := Heap.get?_push_of_some _ hol
  have f1 := F.sub_list_set
  have f2 := F.sub_list_frozenset
  have f3 : (Value.type "list" == Value.type "dict") = false := by decide
  have hl1 : (s.heap.push (emptySet (ledOf w))).IsList l its := ⟨_, hol', rfl, nl, rfl⟩
  have st0 : HasI w (s.heap.push (emptySet (ledOf w))) s.heap.objs.size ns 0 := startI
  have lS : l < s.heap.objs.size := Heap.lt_size hol
  have sz : ns.length = its.size := by rw [← ints_len ht, Array.length_toList]
  generalize ledOf w = led at *
  unfold Builtin.«set.__init__» noKeywords Builtin.Frozenset.updateFrom
  generalize hPI : pyIter = PI
  wp_walk
  subst hPI
  refine wpAny_pyIter_list hl1 (wpAny_bind (wpAny_runValue ?_))
  have calm3 : A.in1.handled = none := by simp [calm]
  have nI : l ≠ (s.heap.push (emptySet led)).objs.size := by
    rw [Heap.size_push]
    exact Nat.ne_of_lt (Nat.lt_succ_of_lt lS)
  have off : s.heap.objs.size ∉ [(s.heap.push (emptySet led)).objs.size, l] := by
    rw [Heap.size_push]
    simp only [List.mem_cons, List.not_mem_nil, or_false, not_or]
    exact ⟨Nat.ne_of_lt (Nat.lt_succ_self _), Nat.ne_of_gt lS⟩
  refine fillI ((Walks.list calm3 _ l nI its).toS) off sz (by omega) (fun i v hv => ints_at ht i v (by rw [Array.getElem?_toList]; exact hv)) its.size 0 _ (Nat.zero_add _) ?_ ?_ fun s' mv q => ?_
  · exact ⟨⟨_, Heap.get?_push_size _ rfl, rfl, rfl⟩, hl1.push _⟩
  · exact st0.at fun o z => Heap.get?_push_of_some _ z
  · obtain ⟨h', g', d', tk', os'⟩ := s'
    obtain rfl : g' = s.gens := mv.gens
    obtain rfl : d' = s.drawn := mv.drawn
    obtain rfl : os' = s.os := mv.os
    show wpAny _ _ _ _ _ _
    refine wpAny_pure ?_
    show wpAny _ _ (ret Value.none) _ _ _
    refine wpAny_pure (h _ ⟨h', tk', rfl, by rw [sz]; exact q, fun b o hb z => mv.heap b o ?_ (Heap.get?_push_of_some _ (Heap.get?_push_of_some _ z))⟩)
    simp only [List.mem_cons, List.not_mem_nil, or_false, not_or]
    rw [Heap.size_push]
    exact ⟨Nat.ne_of_lt hb, Nat.ne_of_lt (Nat.lt_succ_of_lt hb)⟩
theorem setInitIT {Q : Fin → Shared → Prop} (calm : A.handled = none) (hl : s.heap.IsTuple l its) (ht : IntsAre its.toList ns) (few : ns.length + 1 < scanBound)
    (h : ∀ s', IntSet w s ns s' → Q (.done (.ret .none)) s') :
    wpAny (model P w) A (Builtin.«set.__init__» ⟨[.ref s.heap.objs.size, .ref l], []⟩) Q E { s with heap := s.heap.push (emptySet (ledOf w)) } := by
  obtain ⟨⟨oc, od, odt, osl⟩, hol, hcl, nl, hdl⟩ := hl
  dsimp only at hcl hdl
  subst hcl hdl
  have hS : (s.heap.push (emptySet (ledOf w))).get? s.heap.objs.size = some (emptySet (ledOf w)) := Heap.get?_push_size _ rfl
  have hT : Shared.TypeIs { s with heap := s.heap.push (emptySet (ledOf w)) } (.ref s.heap.objs.size) "set" := ⟨_, hS, rfl⟩
  have hol' : (s.heap.push (emptySet (ledOf w))).get? l = some { cls := .type "tuple", dict := od, data := .seq its nl, slots := osl } := Heap.get?_push_of_some _ hol
  have f1 := F.sub_tuple_set
  have f2 := F.sub_tuple_frozenset
  have f3 : (Value.type "tuple" == Value.type "dict") = false := by decide
  have hl1 : (s.heap.push (emptySet (ledOf w))).IsTuple l its := ⟨_, hol', rfl, nl, rfl⟩
  have st0 : HasI w (s.heap.push (emptySet (ledOf w))) s.heap.objs.size ns 0 := startI
  have lS : l < s.heap.objs.size := Heap.lt_size hol
  have sz : ns.length = its.size := by rw [← ints_len ht, Array.length_toList]
  generalize ledOf w = led at *
  unfold Builtin.«set.__init__» noKeywords Builtin.Frozenset.updateFrom
  generalize hPI : pyIter = PI
  wp_walk
  subst hPI
  refine wpAny_pyIter_tuple hl1 (wpAny_bind (wpAny_runValue ?_))
  have calm3 : A.in1.handled = none := by simp [calm]
  have nI : l ≠ (s.heap.push (emptySet led)).objs.size := by
    rw [Heap.size_push]
    exact Nat.ne_of_lt (Nat.lt_succ_of_lt lS)
  have off : s.heap.objs.size ∉ [(s.heap.push (emptySet led)).objs.size, l] := by
    rw [Heap.size_push]
    simp only [List.mem_cons, List.not_mem_nil, or_false, not_or]
    exact ⟨Nat.ne_of_lt (Nat.lt_succ_self _), Nat.ne_of_gt lS⟩
  refine fillI ((Walks.tuple calm3 _ l nI its).toS) off sz (by omega) (fun i v hv => ints_at ht i v (by rw [Array.getElem?_toList]; exact hv)) its.size 0 _ (Nat.zero_add _) ?_ ?_ fun s' mv q => ?_
  · exact ⟨⟨_, Heap.get?_push_size _ rfl, rfl, rfl⟩, hl1.push _⟩
  · exact st0.at fun o z => Heap.get?_push_of_some _ z
  · obtain ⟨h', g', d', tk', os'⟩ := s'
    obtain rfl : g' = s.gens := mv.gens
    obtain rfl : d' = s.drawn := mv.drawn
    obtain rfl : os' = s.os := mv.os
    show wpAny _ _ _ _ _ _
    refine wpAny_pure ?_
    show wpAny _ _ (ret Value.none) _ _ _
    refine wpAny_pure (h _ ⟨h', tk', rfl, by rw [sz]; exact q, fun b o hb z => mv.heap b o ?_ (Heap.get?_push_of_some _ (Heap.get?_push_of_some _ z))⟩)
    simp only [List.mem_cons, List.not_mem_nil, or_false, not_or]
    rw [Heap.size_push]
    exact ⟨Nat.ne_of_lt hb, Nat.ne_of_lt (Nat.lt_succ_of_lt hb)⟩
theorem newSetI (a : Value) {Q : Value → Shared → Prop} (h : Q (.ref s.heap.objs.size) { s with heap := s.heap.push (emptySet (ledOf w)) }) :
    codeAny (model P w) A (.call (.builtin "set.__new__") ⟨[.type "set", a], []⟩) (wants Q E) s := by
  refine codeAny_of_tree ?_
  show wpAny _ A.in1 (checkBuiltinCall "set.__new__" ⟨[.type "set", a], []⟩ >>= fun _ => again (.builtin "set.__new__" ⟨[.type "set", a], []⟩)) _ _ s
  refine wpAny_bind (wpAny_of_eq (F.newCall_set_1 a) (wpAny_pure ⟨plainId_quiet F.plain_set_new _, codeAny_builtin F.entry_set_new ?_⟩))
  rw [Around.under_plainId F.plain_set_new _]
  have sb := sub_set_self
  obtain ⟨h1, h2, h3, h4, h5⟩ := s
  unfold Builtin.«set.__new__» Builtin.Frozenset.newClass
  dsimp only
  wp_walk
  refine wpAny_askSetting (wpAny_pure ?_)
  simp only [newObj]
  exact wpAny_bind (wpAny_alloc (wpAny_pure (wpAny_pure h)))
theorem setOfInts {Q : Value → Shared → Prop} (calm : A.handled = none) (hl : s.heap.IsList l its ∨ s.heap.IsTuple l its) (ht : IntsAre its.toList ns) (few : ns.length + 1 < scanBound)
    (h : ∀ s', IntSet w s ns s' → Q (.ref s.heap.objs.size) s') : wpAny (model P w) A (call (.type "set") [.ref l]) Q E s := by
  obtain ⟨c, tl, mro⟩ := F.called_set.mro
  have g1 := F.called_set.made
  have g2 := F.called_set.sub
  refine wpAny_call (codeAny_of_tree ?_)
  show wpAny _ _ (callAny (.type "set") _) _ _ _
  refine wpAny_pure ⟨Code.quiet_builtin _ (by decide +kernel), codeAny_builtin F.entry_type_call ?_⟩
  rw [Around.under_plain (weight_type_call_type "set" [.ref l] []) rfl]
  have g3 := F.called_set.notType
  have g4 := F.called_set.canCreate
  have g5 := F.typeCall_set_1 (.ref l)
  repeat (any_goals (first | assumption | wp_step))
  refine codeAny_mono (newSetI (w := w) (.ref l) (E := E) (Q := fun o s1 => o = .ref s.heap.objs.size ∧ s1 = { s with heap := s.heap.push (emptySet (ledOf w)) }) ⟨rfl, rfl⟩) fun r s1 hr => ?_
  cases r with
  | error e => exact hr
  | ok fl =>
    cases fl with
    | ret o =>
      obtain ⟨rfl, rfl⟩ := hr
      have hT : Shared.TypeIs { s with heap := s.heap.push (emptySet (ledOf w)) } (.ref s.heap.objs.size) "set" := ⟨_, Heap.get?_push_size _ rfl, rfl⟩
      have g6 := F.called_set.init.lookup
      have g7 := F.called_set.init.bind (.ref s.heap.objs.size)
      repeat (any_goals (first | assumption | wp_step))
      refine codeAny_mono (codeAny_call_builtin (R := wants (fun r s2 => r = .none ∧ IntSet w s ns s2) E) F.called_set.init.plain F.entry_set_init (check_set_init_1 hT ?_)) fun r2 s2 hr2 => ?_
      · rcases hl with hl | hl
        · exact setInitIL (by simp [calm]) hl ht few fun s2 q => ⟨rfl, q⟩
        · exact setInitIT (by simp [calm]) hl ht few fun s2 q => ⟨rfl, q⟩
      · cases r2 with
        | error e => exact hr2
        | ok f2 =>
          cases f2 with
          | ret v =>
            obtain ⟨rfl, q⟩ := hr2
            repeat (any_goals (first | assumption | wp_step))
            exact h _ q
          | _ => exact hr2.elim
    | _ => exact hr.elim
end
/-- set(xs) of ints, a list or a tuple -/
def rSetI (K : PySem.W.Frag) (w : World) : List V → Hp → VK → Prop := fun xs H Q => ∃ (l : Addr) (ns : List Int), xs = [V.ref l] ∧ (SqL K H l (ns.map V.int) ∨ SqT K H l (ns.map V.int)) ∧ ns.length ≤ 4000 ∧
  ∀ p m, m ≤ ns.length → H p = none → Q (.ref p) (L2.upd H p (SetO w p (fun k => decide (k ∈ ns)) m))
theorem cr_setI {X : Cx} (hc : X.calm = true) : CallR X (.type "set") (rSetI X.K X.w) := by
  intro pins s σ H xs us Q I r h
  obtain ⟨l, ns, rfl, hq, few, q⟩ := h
  rw [Vals.ref1 r]
  have fin : ∀ (its : Array Value), (s.heap.IsList l its ∨ s.heap.IsTuple l its) → IntsAre its.toList ns → wpAny (model X.prog X.w) X.A (call (.type "set") [.ref l]) (EP X pins σ Q) X.xe s := fun its hl ht => by
    refine setOfInts (I.ok.hd hc) hl ht (by unfold scanBound; omega) fun s' hs => ?_
    obtain ⟨h', tk, rfl, ⟨m, lm, R⟩, hk⟩ := hs
    have R' : SetR X.w h' s.heap.objs.size (fun k => decide (k ∈ ns)) m := R.congr fun k => by rw [List.take_length]
    exact ⟨.ref _, _, I.laid (fun b u z => hk b u (Heap.lt_size z) z) (Nat.le_refl _) (setO_new R'), rfl, q _ m lm (I.hok.fresh (Nat.le_refl _))⟩
  rcases hq with hq | hq
  · obtain ⟨its, r, pl, hz⟩ := I.list hq
    exact fin _ (.inl pl.isList) (by simpa using Vals.ints r)
  · obtain ⟨its, r, pl, hz⟩ := I.tuple hq
    exact fin _ (.inr pl) (by simpa using Vals.ints r)
end Lf

set_option Elab.async false
set_option linter.all false
set_option maxRecDepth 100000
set_option maxHeartbeats 4000000
/-! sorted(set of ints), however many. -/
namespace Lf
open PySem PySem.Spec PyProof.Rows L2
section
variable {P : Program} {w : World} {A : Around} {E : Value → Shared → Prop} {s : Shared} {a : Addr} {S : Int → Bool} {n : Nat}
theorem sorted_setI {Q : Value → Shared → Prop} (R : SetR w s.heap a S n) (calm : A.handled = none) (few : n ≤ 4000)
    (fin : ∀ t p (r : Array Value) (c : Nat) (ks : List Int), p ≥ s.heap.objs.size → t.gens = s.gens ∧ t.os = s.os → (∀ b u, s.heap.get? b = some u → t.heap.get? b = some u) →
      t.heap.get? p = some (seqObj "list" r c) → IntsAre r.toList ks → ks.Pairwise (· < ·) ∧ (∀ k, k ∈ ks ↔ S k = true) ∧ ks.length = n → Q (.ref p) t) :
    wpAny (model P w) A (call (.builtin "sorted") [.ref a]) Q E s := by
  obtain ⟨x, es, ep, tk, hx, xc, xd, good, uniq, mem, hb, hf, cnt, hr, hl⟩ := R
  have one := args_sorted1 (Value.ref a)
  refine Calls.call_function_entry kind_sorted plain_sorted entry_sorted one ?_
  unfold Builtin.«sorted»
  refine wpAny_bind (wpAny_pure ?_)
  refine wpAny_bind (collect_set (A := A.in1) calm ⟨x, hx, xc.1, xd⟩ hf hb hr hl ?_)
  intro s1 vs keep le sg so perm
  have many : vs.length = n := by
    rw [perm.length_eq, List.length_map, Array.length_toList]
    exact cnt
  have hI : IntsAre vs (vs.map Builtin.Re.reRawOf) := by
    refine ints_of vs ?_
    intro v hv
    obtain ⟨e, he, rfl⟩ := List.mem_map.mp (perm.mem_iff.mp hv)
    obtain ⟨k, t, q, _⟩ := good e he
    exact ⟨k, t, q⟩
  have big : vs.length ≤ sizeLine := by
    rw [many, sizeLine_eq]
    omega
  refine wpAny_bind (wpAny_newList ?_ big)
  have at1 : (s1.heap.push (seqObj "list" vs.toArray 0)).get? s1.heap.objs.size = some (seqObj "list" vs.toArray 0) := Heap.get?_push_size s1.heap (o := seqObj "list" vs.toArray 0) rfl
  refine wpAny_bind (wpAny_holding ?_)
  refine wpAny_call_entry slot_list_sort ⟨_, at1, rfl⟩ entry_list_sort ?_ (args_list_sort _)
  refine SrtO.list_sort_ord SrtO.swo_int at1 big (fun h2 => SrtO.ints_sortable hI h2) ?_
  intro r o1 o2
  obtain ⟨i1, i2, i3⟩ := SrtO.ints_out hI o1 o2
  refine ⟨_, rfl, ?_⟩
  obtain ⟨c, hc⟩ := sortedHeap_at (vs := vs) (out := r.toArray) at1
  have all : (r.map SrtO.iv).Perm (es.toList.map keyOf) := by
    refine i2.trans ?_
    have z := perm.map Builtin.Re.reRawOf
    rwa [List.map_map] at z
  refine wpAny_pure ⟨_, rfl, ?_⟩
  refine fin _ _ r.toArray c (r.map SrtO.iv) le ⟨sg, so⟩ ?_ hc i1 ⟨?_, ?_, ?_⟩
  · intro b u e
    have lt := Heap.lt_size (keep b u e)
    rw [sortedHeap_old (Nat.ne_of_lt lt) (by
      rw [size_push']
      exact Nat.lt_succ_of_lt lt)]
    exact Heap.get?_push_of_some _ (keep b u e)
  · exact lt_of_le_nodup _ i3 (all.nodup_iff.mpr uniq)
  · intro k
    rw [all.mem_iff, ← mem k]
  · rw [all.length_eq, List.length_map, Array.length_toList]
    exact cnt
end
/-- sorted(found) -/
def rSrtSet (w : World) : List V → Hp → VK → Prop := fun vs H Q => ∃ (a : Addr) (S : Int → Bool) (n : Nat), vs = [.ref a] ∧ H a = some (SetO w a S n) ∧ n ≤ 4000 ∧
  ∀ (ks : List Int) (p : Addr), ks.Pairwise (· < ·) → (∀ k : Int, k ∈ ks ↔ S k = true) → H p = none → Q (.ref p) (upd H p (.lst (ks.map V.int)))
theorem cr_srtSet {X : Cx} (calm : X.calm = true) : CallR X (.builtin "sorted") (rSrtSet X.w) := by
  intro pins s σ H vs us Q I r h
  obtain ⟨a, S, n, rfl, ha, few, q⟩ := h
  rw [Vals.ref1 r]
  refine sorted_setI (setO_get I ha) (I.ok.hd calm) few ?_
  intro t p out c ks le eqs keep hp hI ⟨ord, mem, len⟩
  have free := I.hok.fresh le
  have fits : (ks.map V.int).length ≤ sizeLine := by
    rw [List.length_map, len, sizeLine_eq]
    omega
  obtain ⟨th, tg, td, tt, to⟩ := t
  obtain ⟨rfl, rfl⟩ : tg = s.gens ∧ to = s.os := eqs
  have J : L2.Inv X pins σ (upd H p (.lst (ks.map V.int))) { s with heap := th, drawn := td, toks := tt } := by
    refine I.call (ch := []) (Un.laid keep le free) ?_ ?_ (fun _ z => nomatch z)
    · exact I.hok.laid keep le ⟨fits, out.toList, c, vals_of_ints hI, hp⟩
    · exact I.bare
  exact ⟨.ref p, _, J, rfl, q ks p ord mem free⟩
end Lf

set_option Elab.async false
set_option linter.all false
set_option maxRecDepth 100000
set_option maxHeartbeats 8000000
namespace K67
open PySem PySem.Spec PyProof.Rows L2 Lf
theorem sorted_eq : ∀ {a b : List Int}, a.Pairwise (· < ·) → b.Pairwise (· < ·) → (∀ k, k ∈ a ↔ k ∈ b) → a = b
  | [], [], _, _, _ => rfl
  | [], y :: b, _, _, h => absurd ((h y).mpr List.mem_cons_self) (by simp)
  | x :: a, [], _, _, h => absurd ((h x).mp List.mem_cons_self) (by simp)
  | x :: a, y :: b, pa, pb, h => by
    obtain ⟨p1, p2⟩ := List.pairwise_cons.mp pa
    obtain ⟨q1, q2⟩ := List.pairwise_cons.mp pb
    have e : x = y := by
      rcases List.mem_cons.mp ((h x).mp List.mem_cons_self) with e | e
      · exact e
      · rcases List.mem_cons.mp ((h y).mpr List.mem_cons_self) with g | g
        · exact g.symm
        · have := q1 x e
          have := p1 y g
          omega
    subst e
    rw [sorted_eq p2 q2 fun k => ⟨fun hk => ?_, fun hk => ?_⟩]
    · rcases List.mem_cons.mp ((h k).mp (List.mem_cons_of_mem _ hk)) with e | e
      · have := p1 k hk
        omega
      · exact e
    · rcases List.mem_cons.mp ((h k).mpr (List.mem_cons_of_mem _ hk)) with e | e
      · have := q1 k hk
        omega
      · exact e
/-- in order, each once -/
def srt (n : Nat) (row : List Nat) : List Nat := (List.range n).filter fun x => decide (x ∈ row)
theorem srt_mem {n : Nat} {row : List Nat} (h : ∀ x ∈ row, x < n) {x : Nat} : x ∈ srt n row ↔ x ∈ row := by
  unfold srt
  rw [List.mem_filter, List.mem_range, decide_eq_true_eq]
  exact ⟨fun h => h.2, fun g => ⟨h x g, g⟩⟩
theorem srt_eq {n : Nat} {row : List Nat} {ns : List Int} (h : ∀ x ∈ row, x < n) (p : ns.Pairwise (· < ·)) (m : ∀ k : Int, k ∈ ns ↔ decide (k ∈ row.map fun x => ((x : Nat) : Int)) = true) : ns.map V.int = (srt n row).map nv := by
  have e : ns = (srt n row).map fun x => ((x : Nat) : Int) := by
    refine sorted_eq p ?_ fun k => ?_
    · rw [List.pairwise_map]
      refine List.Pairwise.filter _ ?_
      exact (List.pairwise_lt_range (n := n)).imp fun {a b} h => by omega
    · rw [m k, decide_eq_true_eq, List.mem_map, List.mem_map]
      exact ⟨fun ⟨x, hx, e⟩ => ⟨x, (srt_mem h).mpr hx, e⟩, fun ⟨x, hx, e⟩ => ⟨x, (srt_mem h).mp hx, e⟩⟩
  rw [e, List.map_map]
  rfl
def spRows (K : PySem.W.Frag) : Sp := fun vs H Q _ => ∃ r mv wd, vs = [.ref r] ∧ RowsL K H r mv ∧ FormM mv wd ∧ mv.length ≤ 9 ∧ ∀ H', Same H H' → Q (.bl true) H'
/-- an Automaton -/
structure Au (K : PySem.W.Frag) (H : Hp) (x : Addr) (mv : List (List Nat)) (first : Nat) (mk : List Nat) : Prop where
  ex : ∃ dx t u : Addr, H x = some (.ins (He.ga K "Automaton") dx [("rows", .ref t), ("start", nv first), ("accepted", .ref u)]) ∧ RowsT K H t mv ∧ SqT K H u ((srt mv.length mk).map nv)
theorem Au.same {K : PySem.W.Frag} {H H' : Hp} {x : Addr} {mv : List (List Nat)} {first : Nat} {mk : List Nat} (h : Au K H x mv first mk) (e : Same H H') : Au K H' x mv first mk := by
  obtain ⟨dx, t, u, a, b, c⟩ := h.ex
  exact ⟨dx, t, u, e _ _ a, b.same e, Lf.SqT.same e c⟩
def spAut (K : PySem.W.Frag) : Sp := fun vs H Q _ => ∃ p dx r pm mv wd first mk, vs = [.ref p, .ref r, nv first, .ref pm] ∧ H p = some (.ins (He.ga K "Automaton") dx []) ∧ RowsL K H r mv ∧ FormM mv wd ∧ mv.length ≤ 9 ∧ first < mv.length ∧ H pm = some (.lst (mk.map nv)) ∧ (∀ i ∈ mk, i < mv.length) ∧ mk.length ≤ 9 ∧
  ∀ H', But p H H' → Au K H' p mv first mk → Q .non H'
section
variable {P : Program} {w : World} {K : PySem.W.Frag} {mg : Str → Option Value} {base : Heap}
theorem scRows : FnScope ["rows", "row"] ["rows"] (defScope s_are_rows) := ⟨rfl, rfl, rfl, by decide +kernel, rfl, by decide +kernel, by decide +kernel⟩
theorem ok_rows {f : Addr} {fd : FuncData} {q : Str} (F : FunD K "_are_rows" q (defArgs s_are_rows) (defBody s_are_rows) (defScope s_are_rows) [] [] f fd) (T : Txt P w K mg base)
    (DS : Def P w K mg base CX0 1 "is_sequence" ["thing", "least", "most"] (spSeq K)) (DW : Def P w K mg base CX0 3 "wrong_place" ["thing", "many"] (spWrong K)) :
    FnOk P w K mg base CX0 4 f fd ["rows"] (spRows K) := by
  obtain ⟨tS, gS⟩ := T.it 40 "MOST_STATES" 40 rfl
  obtain ⟨tL, gL⟩ := T.it 39 "MOST_LETTERS" 4 rfl
  have zn : mg "len" = none := T.fr 52 "len" rfl
  refine F.ok scRows (fun vs H Q E h => ?_) (fun cdv A outer s H vs Q E hr h => ?_)
  · obtain ⟨r, mv, wd, rfl, _⟩ := h
    rfl
  · obtain ⟨r, mv, wd, rfl, R, FM, m9, k⟩ := h
    have r1 : Room 1 _ := hr.mono (by decide)
    refine ⟨_, PSs.nox (pss_cons (ps_if (pt_not (pt_val (pe_def DS r1 pass0 rfl (pa_cons (pv 0) (pa_cons pe_int (pa_cons (pe_gint rfl gS) pa_nil)))))) (pss_one ps_never) pss_nil)
      (pss_cons (ps_for PassesOwn.never rfl (pi_list (pv 0)) (pg_name (i := 1) scRows.nd rfl (.inl rfl))
        (pss_cons (ps_if (PW.pt (pw_or (pt_not (pt_val (pe_def DS r1 pass0 rfl (pa_cons (pv 1) (pa_cons pe_int (pa_cons (pe_gint rfl gL) pa_nil))))))
            (pw_or1 (pt_cmpR op_ne (pe_callB call_len_seq rfl zn boot_len (pa_cons (pv 1) pa_nil)) (pe_callB call_len_seq rfl zn boot_len (pa_cons (pe_ix ix_list (pv 0) pe_int (fun _ _ => rfl)) pa_nil)) (nomark _))))) (pss_one ps_never) pss_nil)
        (pss_one (ps_if (pt_cmpR op_notN (pe_def DW hr pass0 rfl (pa_cons (pv 1) (pa_cons (pe_callB call_len_seq rfl zn boot_len (pa_cons (pv 0) pa_nil)) pa_nil))) pe_non (nomark _)) (pss_one ps_never) pss_nil))))
      (pss_one (ps_ret pe_bl)))), ?_⟩
    obtain ⟨as, sr, la, srow⟩ := R.ex
    obtain ⟨f1, f2, f3, f4⟩ := FM
    have ln : (as.map V.ref).length = mv.length := by rw [List.length_map, la]
    refine ⟨_, rfl, r, as.map V.ref, 1, 40, rfl, .inl sr, fun H1 s1 => ⟨_, rfl, ?_⟩⟩
    rw [seq_dec (by omega) (by omega)]
    refine ifF rfl ?_
    refine ⟨_, rfl, r, rfl, ⟨_, L2.Same.seq s1 sr⟩, ?_⟩
    refine for_list (K := K) (a := r) (xs := as.map V.ref) (fun i σ H' => ∃ v1 : Option V, σ = [some (.ref r), v1] ∧ Same H H') ⟨none, rfl, s1⟩ (fun i σ H' _ ⟨_, _, s⟩ => L2.Same.seq s sr) ?_ ?_
    · rintro i y σ H' hy ⟨v1, rfl, s2⟩
      obtain ⟨a, ha, rfl⟩ := map_get hy
      obtain ⟨row, hrow⟩ := lt_get (show i < mv.length by have := get_lt ha; omega)
      have sa := srow i a row ha hrow
      obtain ⟨lw, ent⟩ := f4 row (List.mem_of_getElem? hrow)
      refine ⟨_, rfl, a, row.map nv, 1, 4, rfl, .inl (L2.Same.seq s2 sa), fun H3 s3 => ⟨_, rfl, ?_⟩⟩
      rw [List.length_map, seq_dec (by omega) (by omega)]
      refine ifF rfl ?_
      have s4 := s2.trans s3
      obtain ⟨a0, h0⟩ := lt_get (show 0 < as.length by omega)
      obtain ⟨row0, hrow0⟩ := lt_get (show 0 < mv.length by omega)
      have lw0 := (f4 row0 (List.mem_of_getElem? hrow0)).1
      refine ⟨_, rfl, a, row.map nv, rfl, .inl (L2.Same.seq s4 sa), _, rfl, r, as.map V.ref, 0, .ref a0, rfl, rfl, L2.Same.seq s4 sr, atI_nat (j := 0) (get_map h0), a0, row0.map nv, rfl, .inl (L2.Same.seq s4 (srow 0 a0 row0 h0 hrow0)), rfl, _, rfl, ?_⟩
      refine ifF (by simp [lw, lw0]) ?_
      refine ⟨_, rfl, _, rfl, r, as.map V.ref, rfl, .inl (L2.Same.seq s4 sr), a, row, mv.length, by rw [ln], .inl (L2.Same.seq s4 sa), ent, fun H5 s5 => ⟨rfl, _, rfl, ?_⟩⟩
      exact ifF rfl ⟨_, rfl, s4.trans s5⟩
    · rintro σ H' ⟨v1, rfl, s2⟩
      exact k _ s2
end
end K67

set_option Elab.async false
set_option linter.all false
set_option maxRecDepth 100000
set_option maxHeartbeats 2000000
/-! Tuples of numbers, and rows of them, as data: equal, in, index. -/
namespace Lf
open PySem PySem.Spec PyProof.Rows L2
def dN (i : Nat) : PyData := .int ((i : Nat) : Int)
def dI (x : List Nat) : PyData := .tuple (x.map dN)
theorem all_lay {k : Nat} : ∀ {ds : List PyData}, (∀ d ∈ ds, d.canLay0 = true ∧ d.depth ≤ k) → PyData.canLayAll0 ds = true ∧ PyData.depthAll ds ≤ k
  | [], _ => by simp [PyData.canLayAll0, PyData.depthAll]
  | d :: ds, h => by
    obtain ⟨a, b⟩ := all_lay fun e he => h e (List.mem_cons_of_mem _ he)
    obtain ⟨c, e⟩ := h d List.mem_cons_self
    refine ⟨by simp [PyData.canLayAll0, a, c], ?_⟩
    rw [PyData.depthAll]
    omega
theorem tup_lay {k : Nat} {ds : List PyData} (h : ∀ d ∈ ds, d.canLay0 = true ∧ d.depth ≤ k) : (PyData.tuple ds).canLay0 = true ∧ (PyData.tuple ds).depth ≤ k + 1 := by
  obtain ⟨a, b⟩ := all_lay h
  refine ⟨by rw [PyData.canLay0]; exact a, ?_⟩
  rw [PyData.depth]
  omega
theorem lst_lay {k : Nat} {ds : List PyData} (h : ∀ d ∈ ds, d.canLay0 = true ∧ d.depth ≤ k) : (PyData.list ds).canLay0 = true ∧ (PyData.list ds).depth ≤ k + 1 := by
  obtain ⟨a, b⟩ := all_lay h
  refine ⟨by rw [PyData.canLay0]; exact a, ?_⟩
  rw [PyData.depth]
  omega
theorem sh_lay {d : PyData} {k : Nat} (h : d.canLay0 = true ∧ d.depth ≤ k) (hk : k ≤ 64) : SeqAt.shaped d = true := by
  unfold SeqAt.shaped
  rw [h.1, decide_eq_true (by omega)]
  rfl
theorem dN_lay (i : Nat) : (dN i).canLay0 = true ∧ (dN i).depth ≤ 0 := by simp [dN, PyData.canLay0, PyData.depth]
theorem dI_lay (x : List Nat) : (dI x).canLay0 = true ∧ (dI x).depth ≤ 0 + 1 := tup_lay fun d hd => by
  obtain ⟨i, _, rfl⟩ := List.mem_map.mp hd
  exact dN_lay i
theorem dI_sh (x : List Nat) : SeqAt.shaped (dI x) = true := sh_lay (dI_lay x) (by decide)
theorem rows_sh (l : List (List Nat)) : SeqAt.shaped (.list (l.map dI)) = true := sh_lay (lst_lay fun d hd => by
  obtain ⟨i, _, rfl⟩ := List.mem_map.mp hd
  exact dI_lay i) (by decide)
theorem trows_sh (l : List (List Nat)) : SeqAt.shaped (.tuple (l.map dI)) = true := sh_lay (tup_lay fun d hd => by
  obtain ⟨i, _, rfl⟩ := List.mem_map.mp hd
  exact dI_lay i) (by decide)
theorem ints_sh (l : List Nat) : SeqAt.shaped (.list (l.map dN)) = true := sh_lay (lst_lay fun d hd => by
  obtain ⟨i, _, rfl⟩ := List.mem_map.mp hd
  exact dN_lay i) (by decide)
theorem dI_eqv (x y : List Nat) : PyData.eqv (dI x) (dI y) = decide (x = y) := by
  have e : ∀ l : List Nat, l.map dN = (l.map fun i => ((i : Nat) : Int)).map PyData.int := fun l => by rw [List.map_map]; rfl
  unfold dI
  rw [PyData.eqv, e, e, PySem.W.ked_eqvAll]
  refine decide_eq_decide.mpr ⟨fun h => ?_, fun h => by rw [h]⟩
  exact List.map_inj_right (fun a b h => by omega) |>.mp h
section
variable {K : PySem.W.Frag} {H : Hp}
theorem dpN : ∀ {x : List Nat}, DpAll K H (x.map fun i => V.int (i : Nat)) (x.map dN)
  | [] => .nil
  | i :: x => .cons (.int _) dpN
theorem dpI {a : Addr} {x : List Nat} (h : SqT K H a (x.map fun i => V.int (i : Nat))) : Dp K H (.ref a) (dI x) := .tup h dpN
theorem dpR : ∀ {as : List Addr} {rows : List (List Nat)}, as.length = rows.length → (∀ (j : Nat) a x, as[j]? = some a → rows[j]? = some x → SqT K H a (x.map fun i => V.int (i : Nat))) → DpAll K H (as.map V.ref) (rows.map dI)
  | [], [], _, _ => .nil
  | a :: as, x :: rows, l, h => .cons (dpI (h 0 a x rfl rfl)) (dpR (by simpa using l) fun j b y h1 h2 => h (j + 1) b y h1 h2)
theorem any_dI {l : List (List Nat)} {x : List Nat} : ((l.map dI).any fun z => PyData.eqv z (dI x)) = decide (x ∈ l) := by
  rw [List.any_map]
  by_cases h : x ∈ l
  · rw [decide_eq_true h, List.any_eq_true]
    exact ⟨x, h, by show PyData.eqv (dI x) (dI x) = true; rw [dI_eqv]; simp⟩
  · rw [decide_eq_false h, List.any_eq_false]
    intro y hy e
    have : PyData.eqv (dI y) (dI x) = true := e
    rw [dI_eqv] at this
    exact h (of_decide_eq_true this ▸ hy)
/-- for l.index(x): x stands at j and nowhere else -/
theorem index_pre {l : List (List Nat)} {x : List Nat} {j : Nat} (nd : l.Nodup) (hj : l[j]? = some x) : (l.map dI)[j]? = some (dI x) ∧ PyData.eqv (dI x) (dI x) = true ∧ ∀ (k : Nat) z, k < j → (l.map dI)[k]? = some z → PyData.eqv z (dI x) = false := by
  refine ⟨by rw [List.getElem?_map, hj]; rfl, by rw [dI_eqv]; simp, fun k z kj hz => ?_⟩
  rw [List.getElem?_map] at hz
  obtain ⟨y, hy, rfl⟩ := Option.map_eq_some_iff.mp hz
  rw [dI_eqv]
  refine decide_eq_false fun e => ?_
  subst e
  have := (List.getElem?_inj (List.getElem?_eq_some_iff.mp hy).1 nd).mp (hy.trans hj.symm)
  omega
theorem in_dI {p c : Addr} {l : List (List Nat)} {x : List Nat} {Q : VK} (hl : Dp K H (.ref p) (.list (l.map dI))) (hx : Dp K H (.ref c) (dI x)) (q : Q (.bl (decide (x ∈ l))) H) : rInD K (.ref c) (.ref p) H Q :=
  ⟨dI x, l.map dI, hx, hl, dI_sh x, rows_sh l, by rw [any_dI]; exact q⟩
theorem ne_dI {a b : V} {d : PyData} {Q : VK} (ha : Dp K H a d) (hb : Dp K H b d) (sh : SeqAt.shaped d = true) (q : Q (.bl false) H) : rNeD K a b H Q :=
  ⟨d, d, ha, hb, sh, sh, by rw [SeqAt.eqv_refl _ (SeqAt.canLay_of_shaped sh)]; exact q⟩
theorem eq_dI {a b : V} {d : PyData} {Q : VK} (ha : Dp K H a d) (hb : Dp K H b d) (sh : SeqAt.shaped d = true) (q : Q (.bl true) H) : rEqD K a b H Q :=
  ⟨d, d, ha, hb, sh, sh, by rw [SeqAt.eqv_refl _ (SeqAt.canLay_of_shaped sh)]; exact q⟩
end
end Lf

set_option Elab.async false
set_option linter.all false
set_option maxRecDepth 100000
set_option maxHeartbeats 8000000
namespace K67
open PySem PySem.Spec PyProof.Rows L2 Lf
structure OwnC (K : PySem.W.Frag) (x : Str) : Prop where
  ha : PySem.W.findIn K (.ref (He.ga K x)) "__class__" = some (some (.builtin "object.__class__"))
  hn : PySem.W.specialIn K (.builtin "object.__class__") "__get__" = some (some (.builtin "getset_descriptor.__get__"))
  tk : PySem.W.takesIn K (.builtin "object.__class__") = some true
  hm : PySem.W.mroIn K (He.ga K x) (.type "object") = some true
  no : ∀ b ∈ ["int", "bool", "str", "list", "tuple"], PySem.W.kitOne K (.ref (He.ga K x)) (.type b) = some false
  on : ∀ b ∈ ["NoneType", "int", "bool", "str", "list", "tuple", "dict"], PySem.W.kitOne K (.type b) (.ref (He.ga K x)) = some false
  is : ∀ y ∈ owns, PySem.W.kitOne K (.ref (He.ga K x)) (.ref (He.ga K y)) = some (decide (x = y))
theorem ownB_ok {K : PySem.W.Frag} {x : Str} (h : ownB K x = true) : OwnC K x := by
  unfold ownB at h
  simp only [Bool.and_eq_true, decide_eq_true_eq, List.all_eq_true] at h
  obtain ⟨a, b, c, d, e, f, g⟩ := h
  exact ⟨a, b, c, d, e, f, g⟩
abbrev cls (K : PySem.W.Frag) : List Addr := owns.map fun y => He.ga K y
section
variable {P : Program} {w : World} {K : PySem.W.Frag} {mg : Str → Option Value} {base : Heap}
theorem Txt.own (T : Txt P w K mg base) {x : Str} (h : x ∈ owns) : OwnC K x :=
  ownB_ok (List.all_eq_true.mp (He.ba (He.ba (He.ba T.m).2).2).1 x h)
theorem Txt.ops (T : Txt P w K mg base) {x : Str} (h : x ∈ opsl) : Ops K (cls K) (He.ga K x) :=
  ops_ok (List.all_eq_true.mp (He.ba (He.ba (He.ba T.m).2).2).2 x h)
/-- which of the own classes a type is -/
def IsOf (K : PySem.W.Frag) (t : Value) (c : Option Str) : Prop := ∀ y ∈ owns, PySem.W.kitOne K t (.ref (He.ga K y)) = some (decide (c = some y))
theorem OwnC.isOf {x : Str} (o : OwnC K x) : IsOf K (.ref (He.ga K x)) (some x) := fun y hy => by
  rw [o.is y hy]
  congr 1
  simp
theorem OwnC.ty {x : Str} {H : Hp} {a dx : Addr} {fs : List (Str × V)} (o : OwnC K x) (cl : L2.Cls K (He.ga K x)) (h : H a = some (.ins (He.ga K x) dx fs)) : TyX K H (.ref a) (.ref (He.ga K x)) := .base (.ins h cl o.ha o.hn o.tk o.hm)
end
theorem RowsT.dp {K : PySem.W.Frag} {H : Hp} {r : Addr} {rows : List (List Nat)} (h : RowsT K H r rows) : Dp K H (.ref r) (.tuple (rows.map dI)) := by
  obtain ⟨as, a, b, c⟩ := h.ex
  exact .tup a (dpR b c)
theorem seq_fld {K : PySem.W.Frag} {ta tv : TE} {f : Str} {u : TS} {Ds : Ends} {σ : L2.St} {H : Hp} (h : tv σ H fun y H1 => tSeq (sFld K ta (tC y) f) u Ds σ H1) : tSeq (sFld K ta tv f) u Ds σ H := h
theorem fld_k {K : PySem.W.Frag} {ta tv : TE} {f : Str} {Ds : Ends} {σ : L2.St} {H : Hp} (h : tv σ H fun y H1 => sFld K ta (tC y) f Ds σ H1) : sFld K ta tv f Ds σ H := h
/-- a tuple of tuples of a list of lists -/
theorem tups_e {K : PySem.W.Frag} {H : Hp} {r : Addr} {σ : L2.St} {ri j : Nat} {rows : List (List Nat)} {Q : VK} (hr : σ[ri]? = some (some (.ref r))) (R : RowsL K H r rows) (n1 : rows.length ≤ 4000)
    (wj : ∀ x, wipe (List.set (wipe σ [j]) j (some x)) [j] = wipe σ [j]) (hj : ∀ x, (List.set (wipe σ [j]) j (some x))[j]? = some (some x)) (fin : ∀ t H', Same H H' → H t = none → RowsT K H' t rows → Q (.ref t) H') :
    tCB (rTup K) (tCons (tLc (iList K (tVar ri)) (gName j) tYes (tCB (rTup K) (tCons (tVar j) tNil)) [j]) tNil) σ H Q := by
  obtain ⟨as, sr, la, srow⟩ := R.ex
  refine ⟨_, hr, r, rfl, ⟨_, sr⟩, fun D nD => ?_⟩
  refine lc_list (K := K) (a := r) (xs := as.map V.ref) (fun i Hc => But D H Hc ∧ ∃ us : List Addr, us.length = i ∧ Hc D = some (.lst (us.map V.ref)) ∧ ∀ (j : Nat) u row, us[j]? = some u → rows[j]? = some row → Hc u = some (.tup (row.map nv))) ⟨But.upd, [], rfl, upd_same, fun j u row h => by simp at h⟩ (fun i Hc _ ⟨bc, _⟩ => L2.Same.seq (Same.but (L2.Same.refl _) nD bc) sr) (fun i z Hc hz ⟨bc, us, lu, hD, pu⟩ => ?_) (fun Hc ⟨bc, us, lu, hD, pu⟩ => ?_)
  · obtain ⟨a, ha, rfl⟩ := map_get hz
    obtain ⟨row, hrow⟩ := lt_get (show i < rows.length by have := get_lt ha; omega)
    have sc := Same.but (L2.Same.refl _) nD bc
    refine ⟨wj _, yesT ?_⟩
    refine ⟨_, hj _, a, row.map nv, rfl, .inl ⟨L2.Same.seq sc (srow i a row ha hrow), fun u nu => ?_⟩⟩
    have u2 := same_upd (o := .tup (row.map nv)) nu
    have hu : L2.upd Hc u (.tup (row.map nv)) u = some (.tup (row.map nv)) := upd_same
    generalize L2.upd Hc u (.tup (row.map nv)) = H2 at u2 hu ⊢
    have hD2 := u2 _ _ hD
    have nuD : u ≠ D := fun z => by rw [z, hD2] at hu; cases hu
    refine ⟨_, hD2, by rw [List.length_map, lu]; have := get_lt hrow; show i < 16777216; omega, But.trans (bc.trans (But.of u2)) But.upd, us ++ [u], by simp [lu], by rw [upd_same]; simp, fun j v rw' h1 h2 => ?_⟩
    rcases Mon.snoc_cases h1 with h1 | ⟨rfl, rfl⟩
    · have z := u2 _ _ (pu j v rw' h1 h2)
      rw [upd_ne (fun y => by rw [y, hD2] at z; cases z)]
      exact z
    · rw [lu, hrow] at h2
      cases h2
      rw [upd_ne nuD]
      exact hu
  · have sc := Same.but (L2.Same.refl _) nD bc
    refine ⟨D, _, rfl, .inl ⟨SqL.of hD, fun t nt => ?_⟩⟩
    have u2 := same_upd (o := .tup (us.map V.ref)) nt
    refine fin t _ (sc.trans u2) (nil_of sc nt) ⟨us, SqT.of upd_same, by rw [lu, List.length_map, la], fun j u row h1 h2 => SqT.of (u2 _ _ (pu j u row h1 h2))⟩
abbrev teSort (K : PySem.W.Frag) (w : World) (i : Nat) : TE := tCB (rTup K) (tCons (tCB (rSrtSet w) (tCons (tCB (rSetI K w) (tCons (tVar i) tNil)) tNil)) tNil)
/-- tuple(sorted(set(xs))) -/
theorem sort_e {K : PySem.W.Frag} {w : World} {H : Hp} {a : Addr} {σ : L2.St} {i n : Nat} {xs : List Nat} {Q : VK} (hi : σ[i]? = some (some (.ref a))) (sa : SqL K H a (xs.map nv)) (few : xs.length ≤ 4000) (lt : ∀ x ∈ xs, x < n)
    (fin : ∀ u H', Same H H' → H u = none → SqT K H' u ((srt n xs).map nv) → Q (.ref u) H') : teSort K w i σ H Q := by
  have ez : xs.map nv = (xs.map fun x => ((x : Nat) : Int)).map V.int := by rw [List.map_map]; rfl
  rw [ez] at sa
  refine ⟨_, hi, a, xs.map (fun x => ((x : Nat) : Int)), rfl, .inl sa, by rw [List.length_map]; omega, fun e m lm ne => ?_⟩
  rw [List.length_map] at lm
  refine ⟨e, _, m, rfl, upd_same, by omega, fun ns p2 hs hm np2 => ?_⟩
  have se := same_upd (o := SetO w e (fun k => decide (k ∈ xs.map fun x => ((x : Nat) : Int))) m) ne
  have sp := se.trans (same_upd (o := .lst (ns.map V.int)) np2)
  refine ⟨p2, _, rfl, .inl ⟨SqL.of upd_same, fun u nu => ?_⟩⟩
  rw [srt_eq lt hs hm]
  rw [srt_eq lt hs hm] at sp nu
  exact fin u _ (sp.trans (same_upd nu)) (nil_of sp nu) (SqT.of upd_same)
section
variable {P : Program} {w : World} {K : PySem.W.Frag} {mg : Str → Option Value} {base : Heap}
theorem scAut : FnScope ["self", "rows", "start", "accepted", "row"] ["self", "rows", "start", "accepted"] (defScope s_Automaton_init) := ⟨rfl, rfl, rfl, by decide +kernel, rfl, by decide +kernel, by decide +kernel⟩
theorem ok_aut {f : Addr} {fd : FuncData} {q : Str} (F : FunD K "__init__" q (defArgs s_Automaton_init) (defBody s_Automaton_init) (defScope s_Automaton_init) [] [] f fd) (T : Txt P w K mg base)
    (DR : Def P w K mg base CX0 4 "_are_rows" ["rows"] (spRows K)) (DB : Def P w K mg base CX0 2 "is_between" ["thing", "least", "most"] spBtw) (DW : Def P w K mg base CX0 3 "wrong_place" ["thing", "many"] (spWrong K)) :
    FnOk P w K mg base CX0 5 f fd ["self", "rows", "start", "accepted"] (spAut K) := by
  have zn : mg "len" = none := T.fr 52 "len" rfl
  have zs : mg "set" = none := T.fr 57 "set" rfl
  have zo : mg "sorted" = none := T.fr 58 "sorted" rfl
  have zt : mg "tuple" = none := T.fr 60 "tuple" rfl
  have cl : L2.Cls K (He.ga K "Automaton") := He.cls_ok (T.d.fact 72 (f := .cls "Automaton") rfl)
  have n1 : NoAttr K (He.ga K "Automaton") "rows" := He.noat_ok (T.d.fact 75 (f := .noat "Automaton" "rows") rfl)
  have n2 : NoAttr K (He.ga K "Automaton") "start" := He.noat_ok (T.d.fact 76 (f := .noat "Automaton" "start") rfl)
  have n3 : NoAttr K (He.ga K "Automaton") "accepted" := He.noat_ok (T.d.fact 77 (f := .noat "Automaton" "accepted") rfl)
  refine F.ok scAut (fun vs H Q E h => ?_) (fun cdv A outer s H vs Q E hr h => ?_)
  · obtain ⟨p, dx, r, pm, mv, wd, first, mk, rfl, _⟩ := h
    rfl
  · obtain ⟨p, dx, r, pm, mv, wd, first, mk, rfl, hp, R, FM, m9, fl, sm, mkl, k9, k⟩ := h
    have r2 : Room 2 _ := hr.mono (by decide)
    have r3 : Room 3 _ := hr.mono (by decide)
    refine ⟨_, PSs.nox (pss_cons (ps_if (pt_not (pt_val (pe_def DR hr pass0 rfl (pa_cons (pv 1) pa_nil)))) (pss_one ps_never) pss_nil)
      (pss_cons (ps_if (pt_not (pt_val (pe_def DB r2 pass0 rfl (pa_cons (pv 2) (pa_cons pe_int (pa_cons (pe_op op_sub (pe_callB call_len_seq rfl zn boot_len (pa_cons (pv 1) pa_nil)) pe_int) pa_nil)))))) (pss_one ps_never) pss_nil)
      (pss_cons (ps_if (pt_cmpR op_notN (pe_def DW r3 pass0 rfl (pa_cons (pv 3) (pa_cons (pe_callB call_len_seq rfl zn boot_len (pa_cons (pv 1) pa_nil)) pa_nil))) pe_non (nomark _)) (pss_one ps_never) pss_nil)
      (pss_cons (ps_fld (pv 0) (pe_callTy call_tuple_of rfl zt PyProof.Rows.boot_tuple (pa_cons (pe_lc (own := [("row", 4)]) (g := gName 4) (te := tCB (rTup K) (tCons (tVar 4) tNil)) (by rfl) scAut.nd (pi_list (pv 1)) (blkOk_by (own := [("row", 4)]) (N := ["self", "rows", "start", "accepted", "row"]) (sc := defScope s_Automaton_init) (by decide +kernel)) (fun _ _ _ _ _ => pg_name (i := 4) scAut.nd rfl (Or.inl rfl)) (fun _ _ _ _ _ => pts_nil)
        (fun _ _ _ _ _ => by exact pe_callTy call_tuple_of rfl zt PyProof.Rows.boot_tuple (pa_cons (pv 4) pa_nil))) pa_nil)) rfl)
      (pss_cons (ps_fld (pv 0) (pv 2) rfl)
      (pss_one (ps_fld (pv 0) (pe_callTy call_tuple_of rfl zt PyProof.Rows.boot_tuple (pa_cons (pe_callB (cr_srtSet rfl) rfl zo (by decide +kernel) (pa_cons (pe_callTy (cr_setI rfl) rfl zs boot_set (pa_cons (pv 3) pa_nil)) pa_nil)) pa_nil)) rfl))))))), ?_⟩
    obtain ⟨as, sr, la, srow⟩ := R.ex
    have ln : (as.map V.ref).length = mv.length := by rw [List.length_map, la]
    refine ⟨_, rfl, r, mv, wd, rfl, R, FM, m9, fun H1 s1 => ⟨_, rfl, ifF rfl ?_⟩⟩
    refine ⟨_, rfl, _, rfl, r, as.map V.ref, rfl, .inl (L2.Same.seq s1 sr), _, 1, rfl, rfl, nv first, 0, _, rfl, True.intro, _, rfl, ?_⟩
    rw [ln, btw_nv fl]
    refine ifF rfl ?_
    refine ⟨_, rfl, _, rfl, r, as.map V.ref, rfl, .inl (L2.Same.seq s1 sr), pm, mk, mv.length, by rw [ln], .inl (SqL.of (s1 _ _ sm)), mkl, fun H2 s2 => ⟨rfl, _, rfl, ifF rfl ?_⟩⟩
    have s3 := s1.trans s2
    dsimp only
    refine seq_fld (tups_e (ri := 1) (j := 4) rfl (R.same s3) (by omega) (fun _ => rfl) (fun _ => rfl) fun t H4 s4 nt Rt => ?_)
    have npm : pm ≠ p := fun z => by rw [z, hp] at sm; cases sm
    have hp4 := (s3.trans s4) _ _ hp
    have sm4 := (s3.trans s4) _ _ sm
    refine ⟨_, rfl, p, _, dx, [], rfl, hp4, cl, n1, (by show 0 < 1000; decide), ?_⟩
    have b5 : But p H (L2.upd H4 p (.ins (He.ga K "Automaton") dx [("rows", V.ref t)])) := (But.of (s3.trans s4)).trans But.upd
    have Rt5 : RowsT K (L2.upd H4 p (.ins (He.ga K "Automaton") dx [("rows", V.ref t)])) t mv := RowsT.but hp4 But.upd Rt
    have sm5 : L2.upd H4 p (.ins (He.ga K "Automaton") dx [("rows", V.ref t)]) pm = some (.lst (mk.map nv)) := by rw [upd_ne npm]; exact sm4
    have hp5 : L2.upd H4 p (.ins (He.ga K "Automaton") dx [("rows", V.ref t)]) p = some (.ins (He.ga K "Automaton") dx [("rows", V.ref t)]) := upd_same
    show tSeq _ _ _ _ (L2.upd H4 p (.ins (He.ga K "Automaton") dx [("rows", V.ref t)]))
    generalize L2.upd H4 p (.ins (He.ga K "Automaton") dx [("rows", V.ref t)]) = H5 at b5 Rt5 sm5 hp5 ⊢
    clear sm4 hp4 Rt nt s4 s3
    refine ⟨_, rfl, _, rfl, p, _, dx, _, rfl, hp5, cl, n2, (by show 1 < 1000; decide), ?_⟩
    have b6 : But p H (L2.upd H5 p (.ins (He.ga K "Automaton") dx [("rows", V.ref t), ("start", nv first)])) := b5.trans But.upd
    have Rt6 : RowsT K (L2.upd H5 p (.ins (He.ga K "Automaton") dx [("rows", V.ref t), ("start", nv first)])) t mv := RowsT.but hp5 But.upd Rt5
    have sm6 : L2.upd H5 p (.ins (He.ga K "Automaton") dx [("rows", V.ref t), ("start", nv first)]) pm = some (.lst (mk.map nv)) := by rw [upd_ne npm]; exact sm5
    have hp6 : L2.upd H5 p (.ins (He.ga K "Automaton") dx [("rows", V.ref t), ("start", nv first)]) p = some (.ins (He.ga K "Automaton") dx [("rows", V.ref t), ("start", nv first)]) := upd_same
    dsimp only
    show sFld _ _ _ _ _ _ (L2.upd H5 p (.ins (He.ga K "Automaton") dx [("rows", V.ref t), ("start", nv first)]))
    generalize L2.upd H5 p (.ins (He.ga K "Automaton") dx [("rows", V.ref t), ("start", nv first)]) = H6 at b6 Rt6 sm6 hp6 ⊢
    refine fld_k (sort_e (K := K) (w := w) (i := 3) (n := mv.length) rfl (SqL.of sm6) (by omega) mkl fun u H7 s7 nu su => ?_)
    have hp7 := s7 _ _ hp6
    refine ⟨_, rfl, p, _, dx, _, rfl, hp7, cl, n3, (by show 2 < 1000; decide), ?_⟩
    exact k _ ((b6.trans (But.of s7)).trans But.upd) ⟨dx, t, u, upd_same, RowsT.but hp7 But.upd (Rt6.same s7), SqT.but hp7 But.upd su⟩
end
end K67

set_option Elab.async false
set_option linter.all false
set_option maxRecDepth 100000
set_option maxHeartbeats 8000000
namespace K67
open PySem PySem.Spec PyProof.Rows L2 Lf
structure DefM (P : Program) (w : World) (K : PySem.W.Frag) (mg : Str → Option Value) (base : Heap) (CX : CXT) (k : Nat) (m : Str) (ps : List Str) (sp : Sp) : Prop where
  ex : ∃ f fd, Meth K (He.ga K "Monoid") m f ∧ FnOk P w K mg base CX k f fd ps sp ∧ Binds K fd ps []
def spEqA (K : PySem.W.Frag) : Sp := fun vs H Q _ => ∃ a b mv first mk, vs = [.ref a, .ref b] ∧ Au K H a mv first mk ∧ Au K H b mv first mk ∧ Q (.bl true) H
def spCkM (K : PySem.W.Frag) : Sp := fun vs H Q _ => ∃ a rows m, vs = [.ref a] ∧ Mo K H a rows m ∧ Q .non H
def spSize (K : PySem.W.Frag) : Sp := fun vs H Q _ => ∃ p rows m, vs = [.ref p] ∧ Mo K H p rows m ∧ Q (.int (rows.length : Nat)) H
theorem Mo.put {K : PySem.W.Frag} {H H' : Hp} {x p C dx : Addr} {fs : List (Str × V)} {rows : List (List Nat)} {m : List (Nat × Nat)} (h : Mo K H x rows m) (hp : H p = some (.ins C dx fs)) (ne : x ≠ p) (b : But p H H') : Mo K H' x rows m := by
  obtain ⟨dy, t, u, v, a, r, q, l⟩ := h.ex
  exact ⟨dy, t, u, v, b _ _ ne a, RowsT.but hp b r, MadeT.but hp b q, RowsT.but hp b l⟩
/-- a Language: of a monoid's table and the marked elements -/
structure La (K : PySem.W.Frag) (H : Hp) (x : Addr) (rows : List (List Nat)) (mk : List Nat) : Prop where
  ex : ∃ (dx p u : Addr) (m : List (Nat × Nat)), H x = some (.ins (He.ga K "Language") dx [("monoid", .ref p), ("accepted", .ref u)]) ∧ Mo K H p rows m ∧ SqT K H u ((srt rows.length mk).map nv)
theorem La.same {K : PySem.W.Frag} {H H' : Hp} {x : Addr} {rows : List (List Nat)} {mk : List Nat} (h : La K H x rows mk) (e : Same H H') : La K H' x rows mk := by
  obtain ⟨dx, p, u, m, a, b, c⟩ := h.ex
  exact ⟨dx, p, u, m, e _ _ a, b.same e, Lf.SqT.same e c⟩
def spLan (K : PySem.W.Frag) : Sp := fun vs H Q _ => ∃ p dx mo pm rows m wd mk, vs = [.ref p, .ref mo, .ref pm] ∧ H p = some (.ins (He.ga K "Language") dx []) ∧ Mo K H mo rows m ∧ FormM rows wd ∧ rows.length ≤ 500 ∧ H pm = some (.lst (mk.map nv)) ∧ (∀ i ∈ mk, i < rows.length) ∧ mk.length ≤ 500 ∧
  ∀ H', But p H H' → La K H' p rows mk → Q .non H'
section
variable {P : Program} {w : World} {K : PySem.W.Frag} {mg : Str → Option Value} {base : Heap}
theorem scSize : FnScope ["self"] ["self"] (defScope s_Monoid_size) := ⟨rfl, rfl, rfl, by decide +kernel, rfl, by decide +kernel, by decide +kernel⟩
theorem ok_size {f : Addr} {fd : FuncData} {q : Str} (F : FunD K "size" q (defArgs s_Monoid_size) (defBody s_Monoid_size) (defScope s_Monoid_size) [] [] f fd) (T : Txt P w K mg base) :
    FnOk P w K mg base CX0 1 f fd ["self"] (spSize K) := by
  have zn : mg "len" = none := T.fr 52 "len" rfl
  have cl : L2.Cls K (He.ga K "Monoid") := He.cls_ok (T.d.fact 61 (f := .cls "Monoid") rfl)
  have n1 : NoAttr K (He.ga K "Monoid") "right" := He.noat_ok (T.d.fact 69 (f := .noat "Monoid" "right") rfl)
  refine F.ok scSize (fun vs H Q E h => ?_) (fun cdv A outer s H vs Q E hr h => ?_)
  · obtain ⟨p, rows, m, rfl, _⟩ := h
    rfl
  · obtain ⟨p, rows, m, rfl, ⟨dx, t, u, v, hp, Rt, _⟩, k⟩ := h
    obtain ⟨as, sr, la, _⟩ := Rt.ex
    refine ⟨_, PSs.nox (pss_one (ps_ret (pe_callB call_len_seq rfl zn boot_len (pa_cons (pe_fld (pv 0) rfl) pa_nil)))), ?_⟩
    refine ⟨_, rfl, p, _, dx, _, _, rfl, hp, cl, n1, rfl, t, as.map V.ref, rfl, .inr sr, ?_⟩
    rw [List.length_map, la]
    exact k
theorem scCkM : FnScope ["thing"] ["thing"] (defScope s_check_monoid) := ⟨rfl, rfl, rfl, by decide +kernel, rfl, by decide +kernel, by decide +kernel⟩
theorem ok_ckM {f : Addr} {fd : FuncData} {q : Str} (F : FunD K "check_monoid" q (defArgs s_check_monoid) (defBody s_check_monoid) (defScope s_check_monoid) [] [] f fd) (T : Txt P w K mg base) :
    FnOk P w K mg base CX0 1 f fd ["thing"] (spCkM K) := by
  have zI : mg "isinstance" = none := T.fr 51 "isinstance" rfl
  have g0 := T.gl 7 "Monoid" rfl
  have cl : L2.Cls K (He.ga K "Monoid") := He.cls_ok (T.d.fact 61 (f := .cls "Monoid") rfl)
  refine F.ok scCkM (fun vs H Q E h => ?_) (fun cdv A outer s H vs Q E hr h => ?_)
  · obtain ⟨a, rows, m, rfl, _⟩ := h
    rfl
  · obtain ⟨a, rows, m, rfl, ⟨dx, t, u, v, ha, qa, _⟩, k⟩ := h
    refine ⟨_, PSs.nox (pss_one (ps_if (pt_not (pt_val (pe_callB call_isi rfl zI PyProof.Rows.boot_isinstance (pa_cons (pv 0) (pa_cons (pe_cl rfl g0) pa_nil))))) (pss_one ps_never) pss_nil)), ?_⟩
    have ty := (T.own (x := "Monoid") (by decide)).ty cl ha
    have is := (T.own (x := "Monoid") (by decide)).is "Monoid" (by decide)
    refine ⟨_, rfl, _, .ref _, _, _, _, rfl, .own _, ty, is, _, rfl, ?_⟩
    exact ifF (by decide +kernel) k
theorem scEqA : FnScope ["self", "other"] ["self", "other"] (defScope s_Automaton_eq) := ⟨rfl, rfl, rfl, by decide +kernel, rfl, by decide +kernel, by decide +kernel⟩
theorem ok_eqA {f : Addr} {fd : FuncData} {q : Str} (F : FunD K "__eq__" q (defArgs s_Automaton_eq) (defBody s_Automaton_eq) (defScope s_Automaton_eq) [] [] f fd) (T : Txt P w K mg base) : FnOk P w K mg base CX0 1 f fd ["self", "other"] (spEqA K) := by
  have zI : mg "isinstance" = none := T.fr 51 "isinstance" rfl
  have g0 := T.gl 8 "Automaton" rfl
  have c0 : L2.Cls K (He.ga K "Automaton") := He.cls_ok (T.d.fact 72 (f := .cls "Automaton") rfl)
  have n0 : NoAttr K (He.ga K "Automaton") "rows" := He.noat_ok (T.d.fact 75 (f := .noat "Automaton" "rows") rfl)
  have m0 : NoAttr K (He.ga K "Automaton") "start" := He.noat_ok (T.d.fact 76 (f := .noat "Automaton" "start") rfl)
  have m1 : NoAttr K (He.ga K "Automaton") "accepted" := He.noat_ok (T.d.fact 77 (f := .noat "Automaton" "accepted") rfl)
  refine F.ok scEqA (fun vs H Q E h => ?_) (fun cdv A outer s H vs Q E hr h => ?_)
  · obtain ⟨a, b, mv, first, mk, rfl, _⟩ := h
    rfl
  · obtain ⟨a, b, mv, first, mk, rfl, ⟨dx, t, u, ha, qa, ua⟩, ⟨dy, t', u', hb, qb, ub⟩, k⟩ := h
    refine ⟨_, PSs.nox (pss_one (ps_ret (pe_and (pe_callB call_isi rfl zI PyProof.Rows.boot_isinstance (pa_cons (pv 1) (pa_cons (pe_cl rfl g0) pa_nil))) (pe_and (pe_cmpR (op_eqD hr.units) (pe_fld (pv 0) rfl) (pe_fld (pv 1) rfl) (nomark _)) (pe_and (pe_cmpR op_eq (pe_fld (pv 0) rfl) (pe_fld (pv 1) rfl) (nomark _)) (pe_one (pe_cmpR (op_eqD hr.units) (pe_fld (pv 0) rfl) (pe_fld (pv 1) rfl) (nomark _)))))))), ?_⟩
    have ty := (T.own (x := "Automaton") (by decide)).ty c0 hb
    have is := (T.own (x := "Automaton") (by decide)).is "Automaton" (by decide)
    refine ⟨_, rfl, _, .ref _, _, _, _, rfl, .own _, ty, is, _, rfl, ?_⟩
    refine ifT (by decide +kernel) ?_
    refine ⟨_, rfl, _, _, _, _, _, rfl, ha, c0, n0, rfl, _, rfl, _, _, _, _, _, rfl, hb, c0, n0, rfl, ?_⟩
    refine eq_dI qa.dp qb.dp (trows_sh _) ⟨_, rfl, ifT rfl ?_⟩
    refine ⟨_, rfl, _, _, _, _, _, rfl, ha, c0, m0, rfl, _, rfl, _, _, _, _, _, rfl, hb, c0, m0, rfl, rfl, ?_⟩
    refine ⟨_, rfl, ifT (by simp) ?_⟩
    refine ⟨_, rfl, _, _, _, _, _, rfl, ha, c0, m1, rfl, _, rfl, _, _, _, _, _, rfl, hb, c0, m1, rfl, ?_⟩
    exact eq_dI (dpI ua) (dpI ub) (dI_sh _) k
theorem scLan : FnScope ["self", "monoid", "accepted"] ["self", "monoid", "accepted"] (defScope s_Language_init) := ⟨rfl, rfl, rfl, by decide +kernel, rfl, by decide +kernel, by decide +kernel⟩
theorem ok_lan {f : Addr} {fd : FuncData} {q : Str} (F : FunD K "__init__" q (defArgs s_Language_init) (defBody s_Language_init) (defScope s_Language_init) [] [] f fd) (T : Txt P w K mg base)
    (DC : Def P w K mg base CX0 1 "check_monoid" ["thing"] (spCkM K)) (DS : DefM P w K mg base CX0 1 "size" ["self"] (spSize K)) (DW : Def P w K mg base CX0 3 "wrong_place" ["thing", "many"] (spWrong K)) :
    FnOk P w K mg base CX0 5 f fd ["self", "monoid", "accepted"] (spLan K) := by
  obtain ⟨tL, gL⟩ := T.it 39 "MOST_LETTERS" 4 rfl
  obtain ⟨tF, gF⟩ := T.it 41 "MOST_FOUND" 500 rfl
  have zn : mg "len" = none := T.fr 52 "len" rfl
  have zs : mg "set" = none := T.fr 57 "set" rfl
  have zo : mg "sorted" = none := T.fr 58 "sorted" rfl
  have zt : mg "tuple" = none := T.fr 60 "tuple" rfl
  have cm : L2.Cls K (He.ga K "Monoid") := He.cls_ok (T.d.fact 61 (f := .cls "Monoid") rfl)
  have r0 : NoAttr K (He.ga K "Monoid") "right" := He.noat_ok (T.d.fact 69 (f := .noat "Monoid" "right") rfl)
  have cl : L2.Cls K (He.ga K "Language") := He.cls_ok (T.d.fact 78 (f := .cls "Language") rfl)
  have n1 : NoAttr K (He.ga K "Language") "monoid" := He.noat_ok (T.d.fact 81 (f := .noat "Language" "monoid") rfl)
  have n2 : NoAttr K (He.ga K "Language") "accepted" := He.noat_ok (T.d.fact 82 (f := .noat "Language" "accepted") rfl)
  obtain ⟨fs, fds, ms, Fs, bs⟩ := DS.ex
  refine F.ok scLan (fun vs H Q E h => ?_) (fun cdv A outer s H vs Q E hr h => ?_)
  · obtain ⟨p, dx, mo, pm, rows, m, wd, mk, rfl, _⟩ := h
    rfl
  · obtain ⟨p, dx, mo, pm, rows, m, wd, mk, rfl, hp, M, FM, m5, sm, mkl, k5, k⟩ := h
    have r1 : Room 1 _ := hr.mono (by decide)
    have r3 : Room 3 _ := hr.mono (by decide)
    refine ⟨_, PSs.nox (pss_cons (ps_expr (pe_def DC r1 pass0 rfl (pa_cons (pv 1) pa_nil)))
      (pss_cons (ps_if (PW.pt (pw_or (pt_cmpR op_gt (pe_callB call_len_seq rfl zn boot_len (pa_cons (pe_ix ix_tup (pe_fld (pv 1) rfl) pe_int (fun _ _ => rfl)) pa_nil)) (pe_gint rfl gL) (nomark _))
          (pw_or1 (pt_cmpR op_notN (pe_def DW r3 pass0 rfl (pa_cons (pv 2) (pa_cons (pe_meth0 (pv 1) cm ms Fs r1 bs .nil pass0) pa_nil))) pe_non (nomark _))))) (pss_one ps_never) pss_nil)
      (pss_cons (ps_if (pt_cmpR op_gt (pe_meth0 (pv 1) cm ms Fs r1 bs .nil pass0) (pe_gint rfl gF) (nomark _)) (pss_one ps_never) pss_nil)
      (pss_cons (ps_fld (pv 0) (pv 1) rfl)
      (pss_one (ps_fld (pv 0) (pe_callTy call_tuple_of rfl zt PyProof.Rows.boot_tuple (pa_cons (pe_callB (cr_srtSet rfl) rfl zo (by decide +kernel) (pa_cons (pe_callTy (cr_setI rfl) rfl zs boot_set (pa_cons (pv 2) pa_nil)) pa_nil)) pa_nil)) rfl)))))), ?_⟩
    obtain ⟨f1, f2, f3, f4⟩ := FM
    obtain ⟨dy, t, u, v, hm, Rt, Mu, Lv⟩ := id M
    obtain ⟨as, sr, la, srow⟩ := Rt.ex
    obtain ⟨a0, h0⟩ := lt_get (show 0 < as.length by omega)
    obtain ⟨row0, hrow0⟩ := lt_get (show 0 < rows.length by omega)
    have lw0 := (f4 row0 (List.mem_of_getElem? hrow0)).1
    refine ⟨_, rfl, mo, rows, m, rfl, M, ?_⟩
    refine ⟨_, rfl, mo, _, dy, _, _, rfl, hm, cm, r0, rfl, t, as.map V.ref, 0, .ref a0, rfl, rfl, sr, atI_nat (j := 0) (get_map h0), a0, row0.map nv, rfl, .inr (srow 0 a0 row0 h0 hrow0), _, _, rfl, rfl, _, rfl, ?_⟩
    refine ifF (by rw [List.length_map, lw0]; exact decide_eq_false (by omega)) ?_
    refine ⟨_, rfl, _, rfl, mo, dy, _, rfl, hm, rfl, ⟨mo, rows, m, rfl, M, ?_⟩⟩
    refine ⟨pm, mk, rows.length, rfl, .inl (SqL.of sm), mkl, fun H1 s1 => ⟨rfl, _, rfl, ifF rfl ?_⟩⟩
    have M1 := M.same s1
    refine ⟨_, rfl, mo, dy, _, rfl, s1 _ _ hm, rfl, ⟨mo, rows, m, rfl, M1, ?_⟩⟩
    refine ⟨_, _, rfl, rfl, _, rfl, ifF (decide_eq_false (by omega)) ?_⟩
    have hp1 := s1 _ _ hp
    have npm : pm ≠ p := fun z => by rw [z, hp] at sm; cases sm
    have sm1 := s1 _ _ sm
    dsimp only
    refine ⟨_, rfl, _, rfl, p, _, dx, [], rfl, hp1, cl, n1, (by show 0 < 1000; decide), ?_⟩
    have b2 : But p H (L2.upd H1 p (.ins (He.ga K "Language") dx [("monoid", V.ref mo)])) := (But.of s1).trans But.upd
    have nem : mo ≠ p := fun z => by
      have h1 := s1 _ _ hm
      rw [z, hp1] at h1
      simp at h1
    have M2 : Mo K (L2.upd H1 p (.ins (He.ga K "Language") dx [("monoid", V.ref mo)])) mo rows m := M1.put hp1 nem But.upd
    have sm2 : L2.upd H1 p (.ins (He.ga K "Language") dx [("monoid", V.ref mo)]) pm = some (.lst (mk.map nv)) := by rw [upd_ne npm]; exact sm1
    have hp2 : L2.upd H1 p (.ins (He.ga K "Language") dx [("monoid", V.ref mo)]) p = some (.ins (He.ga K "Language") dx [("monoid", V.ref mo)]) := upd_same
    dsimp only
    show sFld _ _ _ _ _ _ (L2.upd H1 p (.ins (He.ga K "Language") dx [("monoid", V.ref mo)]))
    generalize L2.upd H1 p (.ins (He.ga K "Language") dx [("monoid", V.ref mo)]) = H2 at b2 M2 sm2 hp2 ⊢
    refine fld_k (sort_e (K := K) (w := w) (i := 2) (n := rows.length) rfl (SqL.of sm2) (by omega) mkl fun u H3 s3 nu su => ?_)
    have hp3 := s3 _ _ hp2
    refine ⟨_, rfl, p, _, dx, _, rfl, hp3, cl, n2, (by show 1 < 1000; decide), ?_⟩
    have M3 := M2.same s3
    refine k _ ((b2.trans (But.of s3)).trans But.upd) ⟨dx, mo, u, m, upd_same, M3.put hp3 nem But.upd, SqT.but hp3 But.upd su⟩
end
end K67

set_option Elab.async false
set_option linter.all false
set_option maxRecDepth 100000
set_option maxHeartbeats 8000000
namespace K67
open PySem PySem.Spec PyProof.Rows L2 Lf
/-- an Automaton or a Language: its table, where it starts, what is marked -/
def Thg (K : PySem.W.Frag) (H : Hp) (x : Addr) (rows : List (List Nat)) (start : Nat) (acc : List Nat) : Prop := Au K H x rows start acc ∨ (start = 0 ∧ La K H x rows acc)
theorem Thg.same {K : PySem.W.Frag} {H H' : Hp} {x : Addr} {rows : List (List Nat)} {start : Nat} {acc : List Nat} (h : Thg K H x rows start acc) (e : Same H H') : Thg K H' x rows start acc := h.imp (fun z => z.same e) fun z => ⟨z.1, z.2.same e⟩
/-- who is marked -/
def mks (n : Nat) (l : List Nat) : List V := (List.range n).map fun i => V.bl (decide (i ∈ l))
theorem mks_len {n : Nat} {l : List Nat} : (mks n l).length = n := by unfold mks; rw [List.length_map, List.length_range]
theorem mks_set {n k : Nat} {l : List Nat} (h : k < n) : (mks n l).set k (.bl true) = mks n (l ++ [k]) := by
  refine List.ext_getElem? fun i => ?_
  unfold mks
  rw [List.getElem?_set]
  by_cases e : k = i
  · subst e
    rw [if_pos rfl, List.length_map, List.length_range, if_pos h, List.getElem?_map, List.getElem?_range h]
    simp
  · rw [if_neg e, List.getElem?_map, List.getElem?_map]
    by_cases hi : i < n
    · rw [List.getElem?_range hi]
      simp [Ne.symm e]
    · rw [List.getElem?_eq_none (by rw [List.length_range]; omega)]
      rfl
theorem mks_congr {n : Nat} {l m : List Nat} (h : ∀ i, i < n → (i ∈ l ↔ i ∈ m)) : mks n l = mks n m := List.map_congr_left fun i hi => by
  rw [decide_eq_decide.mpr (h i (List.mem_range.mp hi))]
theorem mks_nil {n : Nat} : (List.replicate n [V.bl false]).flatten = mks n [] := by
  rw [rep2]
  refine List.ext_getElem? fun i => ?_
  unfold mks
  rw [List.getElem?_map]
  by_cases hi : i < n
  · rw [List.getElem?_range hi, List.getElem?_replicate, if_pos hi]
    rfl
  · rw [List.getElem?_eq_none (by rw [List.length_replicate]; omega), List.getElem?_eq_none (by rw [List.length_range]; omega)]
    rfl
def spCkT (K : PySem.W.Frag) : Sp := fun vs H Q _ => ∃ a rows st acc, vs = [.ref a] ∧ Thg K H a rows st acc ∧ Q .non H
def spSt (K : PySem.W.Frag) : Sp := fun vs H Q _ => ∃ a rows st acc, vs = [.ref a] ∧ Thg K H a rows st acc ∧ 1 ≤ rows.length ∧ rows.length ≤ 500 ∧ (∀ i ∈ acc, i < rows.length) ∧
  ∀ T t pm H', Same H H' → H' T = some (.tup [.ref t, nv st, .ref pm]) → RowsT K H' t rows → H' pm = some (.lst (mks rows.length acc)) → Q (.ref T) H'
section
variable {P : Program} {w : World} {K : PySem.W.Frag} {mg : Str → Option Value} {base : Heap}
theorem scCkT : FnScope ["thing"] ["thing"] (defScope s_check_thing) := ⟨rfl, rfl, rfl, by decide +kernel, rfl, by decide +kernel, by decide +kernel⟩
theorem ok_ckT {f : Addr} {fd : FuncData} {q : Str} (F : FunD K "check_thing" q (defArgs s_check_thing) (defBody s_check_thing) (defScope s_check_thing) [] [] f fd) (T : Txt P w K mg base) :
    FnOk P w K mg base CX0 1 f fd ["thing"] (spCkT K) := by
  have zI : mg "isinstance" = none := T.fr 51 "isinstance" rfl
  have g0 := T.gl 8 "Automaton" rfl
  have g1 := T.gl 9 "Language" rfl
  have c0 : L2.Cls K (He.ga K "Automaton") := He.cls_ok (T.d.fact 72 (f := .cls "Automaton") rfl)
  have c1 : L2.Cls K (He.ga K "Language") := He.cls_ok (T.d.fact 78 (f := .cls "Language") rfl)
  refine F.ok scCkT (fun vs H Q E h => ?_) (fun cdv A outer s H vs Q E hr h => ?_)
  · obtain ⟨a, rows, st, acc, rfl, _⟩ := h
    rfl
  · obtain ⟨a, rows, st, acc, rfl, TH, k⟩ := h
    refine ⟨_, PSs.nox (pss_one (ps_if (PW.pt (pw_and (pt_not (pt_val (pe_callB call_isi rfl zI PyProof.Rows.boot_isinstance (pa_cons (pv 0) (pa_cons (pe_cl rfl g0) pa_nil)))))
      (pw_and1 (pt_not (pt_val (pe_callB call_isi rfl zI PyProof.Rows.boot_isinstance (pa_cons (pv 0) (pa_cons (pe_cl rfl g1) pa_nil)))))))) (pss_one ps_never) pss_nil)), ?_⟩
    rcases TH with ⟨dx, t, u, ha, _, _⟩ | ⟨_, dx, p, u, m, ha, _, _⟩
    · have ty := (T.own (x := "Automaton") (by decide)).ty c0 ha
      have is := (T.own (x := "Automaton") (by decide)).is "Automaton" (by decide)
      refine ⟨_, rfl, _, .ref _, _, _, _, rfl, .own _, ty, is, _, rfl, ?_⟩
      exact ifF (by decide +kernel) k
    · have ty := (T.own (x := "Language") (by decide)).ty c1 ha
      have is := (T.own (x := "Language") (by decide)).is "Automaton" (by decide)
      have is1 := (T.own (x := "Language") (by decide)).is "Language" (by decide)
      refine ⟨_, rfl, _, .ref _, _, _, _, rfl, .own _, ty, is, _, rfl, ?_⟩
      refine ifT (by decide +kernel) ?_
      refine ⟨_, rfl, _, .ref _, _, _, _, rfl, .own _, ty, is1, _, rfl, ?_⟩
      exact ifF (by decide +kernel) k
theorem scSt : FnScope ["thing", "rows", "start", "marks", "state"] ["thing"] (defScope s_states_of) := ⟨rfl, rfl, rfl, by decide +kernel, rfl, by decide +kernel, by decide +kernel⟩
theorem ok_st {f : Addr} {fd : FuncData} {q : Str} (F : FunD K "_states_of" q (defArgs s_states_of) (defBody s_states_of) (defScope s_states_of) [] [] f fd) (T : Txt P w K mg base)
    (DC : Def P w K mg base CX0 1 "check_thing" ["thing"] (spCkT K)) :
    FnOk P w K mg base CX0 2 f fd ["thing"] (spSt K) := by
  have zI : mg "isinstance" = none := T.fr 51 "isinstance" rfl
  have zn : mg "len" = none := T.fr 52 "len" rfl
  have g0 := T.gl 8 "Automaton" rfl
  have c0 : L2.Cls K (He.ga K "Automaton") := He.cls_ok (T.d.fact 72 (f := .cls "Automaton") rfl)
  have c1 : L2.Cls K (He.ga K "Language") := He.cls_ok (T.d.fact 78 (f := .cls "Language") rfl)
  have cm : L2.Cls K (He.ga K "Monoid") := He.cls_ok (T.d.fact 61 (f := .cls "Monoid") rfl)
  have r0 : NoAttr K (He.ga K "Monoid") "right" := He.noat_ok (T.d.fact 69 (f := .noat "Monoid" "right") rfl)
  have a1 : NoAttr K (He.ga K "Automaton") "rows" := He.noat_ok (T.d.fact 75 (f := .noat "Automaton" "rows") rfl)
  have a2 : NoAttr K (He.ga K "Automaton") "start" := He.noat_ok (T.d.fact 76 (f := .noat "Automaton" "start") rfl)
  have a3 : NoAttr K (He.ga K "Automaton") "accepted" := He.noat_ok (T.d.fact 77 (f := .noat "Automaton" "accepted") rfl)
  have l1 : NoAttr K (He.ga K "Language") "monoid" := He.noat_ok (T.d.fact 81 (f := .noat "Language" "monoid") rfl)
  have l2 : NoAttr K (He.ga K "Language") "accepted" := He.noat_ok (T.d.fact 82 (f := .noat "Language" "accepted") rfl)
  refine F.ok scSt (fun vs H Q E h => ?_) (fun cdv A outer s H vs Q E hr h => ?_)
  · obtain ⟨a, rows, st, acc, rfl, _⟩ := h
    rfl
  · obtain ⟨a, rows, st, acc, rfl, TH, n1, n5, al, k⟩ := h
    refine ⟨_, PSs.nox (pss_cons (ps_expr (pe_def DC hr pass0 rfl (pa_cons (pv 0) pa_nil)))
      (pss_cons (ps_if (pt_val (pe_callB call_isi rfl zI PyProof.Rows.boot_isinstance (pa_cons (pv 0) (pa_cons (pe_cl rfl g0) pa_nil))))
        (pss_one (ps_par (i := 1) (j := 2) rfl scSt.nd rfl rfl (by decide) rfl rfl (pa_cons (pe_fld (pv 0) rfl) (pa_cons (pe_fld (pv 0) rfl) pa_nil)) (by rfl)))
        (pss_one (ps_par (i := 1) (j := 2) rfl scSt.nd rfl rfl (by decide) rfl rfl (pa_cons (pe_fld (pe_fld (pv 0) rfl) rfl) (pa_cons pe_int pa_nil)) (by rfl))))
      (pss_cons (ps_set (i := 3) scSt.nd rfl (.inl rfl) (pe_op op_rep (pe_lst (pa_cons pe_bl pa_nil)) (pe_callB call_len_seq rfl zn boot_len (pa_cons (pv 1) pa_nil))))
      (pss_cons (ps_for PassesOwn.never rfl (pi_tup (pe_fld (pv 0) rfl)) (pg_name (i := 4) scSt.nd rfl (.inl rfl))
        (pss_one (ps_asg pe_bl (pg_sub (pv 3) (pv 4) set_list))))
      (pss_one (ps_ret (pe_tup (pa_cons (pv 1) (pa_cons (pv 2) (pa_cons (pv 3) pa_nil)))))))))), ?_⟩
    refine ⟨_, rfl, a, rows, st, acc, rfl, TH, ?_⟩
    obtain ⟨u, C, dx, fs, ha, cC, nC, lk, su⟩ : ∃ (u C dx : Addr) (fs : List (Str × V)), H a = some (.ins C dx fs) ∧ L2.Cls K C ∧ NoAttr K C "accepted" ∧ fs.lookup ("accepted" : Str) = some (.ref u) ∧ SqT K H u ((srt rows.length acc).map nv) := by
      rcases TH with ⟨dx, t, u, ha, _, su⟩ | ⟨_, dx, p, u, m, ha, _, su⟩
      · exact ⟨u, _, dx, _, ha, c0, a3, rfl, su⟩
      · exact ⟨u, _, dx, _, ha, c1, l2, rfl, su⟩
    dsimp only
    refine seq_join (fun σ' H' => ∃ t : Addr, σ' = [some (.ref a), some (.ref t), some (nv st), none, none] ∧ H' = H ∧ RowsT K H t rows) ?_ ?_
    · rintro σ' H' ⟨t, rfl, rfl, Rt⟩
      obtain ⟨as, sr, la, srow⟩ := id Rt
      refine ⟨(by show 1 ≤ sizeLine; decide), fun p0 np0 => ⟨_, rfl, t, as.map V.ref, rfl, .inr (Lf.SqT.same (same_upd np0) sr), p0, _, _, rfl, rfl, upd_same, by omega, by rw [List.length_map, la]; omega, by rw [List.length_map, la, Int.toNat_natCast]; show 1 * rows.length ≤ 16777216; omega, fun pm npm => ?_⟩⟩
      rw [List.length_map, la, Int.toNat_natCast, mks_nil]
      have s2 := (same_upd (o := .lst [V.bl false]) np0).trans (same_upd (o := .lst (mks rows.length [])) npm)
      have hm2 : L2.upd (L2.upd H' p0 (.lst [V.bl false])) pm (.lst (mks rows.length [])) pm = some (.lst (mks rows.length [])) := upd_same
      have npm0 : H' pm = none := nil_of (same_upd np0) npm
      generalize L2.upd (L2.upd H' p0 (.lst [V.bl false])) pm (.lst (mks rows.length [])) = H2 at s2 hm2 ⊢
      refine ⟨_, rfl, a, C, dx, fs, _, rfl, s2 _ _ ha, cC, nC, lk, u, rfl, ⟨_, Lf.SqT.same s2 su⟩, ?_⟩
      refine for_tup (K := K) (a := u) (xs := (srt rows.length acc).map nv) (fun i σ H3 => ∃ v4 : Option V, σ = [some (.ref a), some (.ref t), some (nv st), some (.ref pm), v4] ∧ Same H' H3 ∧ H3 pm = some (.lst (mks rows.length ((srt rows.length acc).take i)))) ⟨none, rfl, s2, hm2⟩ (fun i σ H3 _ ⟨_, _, s, _⟩ => Lf.SqT.same s su) ?_ ?_
      · rintro i y σ H3 hy ⟨v4, rfl, s3, hm3⟩
        obtain ⟨x, hx, rfl⟩ := map_get hy
        have xl : x < rows.length := al x ((srt_mem al).mp (List.mem_of_getElem? hx))
        refine ⟨_, rfl, _, rfl, pm, _, (x : Nat), x, rfl, rfl, hm3, ?_, some (nv x), rfl, fun b o e => ?_, ?_⟩
        · unfold ixN
          rw [mks_len, if_pos (by omega), if_pos (by omega)]
          rfl
        · rw [upd_ne (ne_of_none e npm0)]
          exact s3 b o e
        · rw [upd_same, mks_set xl, take_snoc hx]
      · rintro σ H3 ⟨v4, rfl, s3, hm3⟩
        rw [List.length_map, List.take_length, mks_congr (m := acc) fun i _ => srt_mem al] at hm3
        refine ⟨_, rfl, _, rfl, _, rfl, (by show 3 ≤ sizeLine; decide), fun T nT => ?_⟩
        have sT := same_upd (o := .tup [.ref t, nv st, .ref pm]) nT
        exact k T t pm _ (s3.trans sT) upd_same ((Rt.same s3).same sT) (sT _ _ hm3)
    · intro nx hnx
      rcases TH with ⟨dx, t, u, ha, Rt, _⟩ | ⟨rfl, dx, p, u, m, ha, M, _⟩
      · have ty := (T.own (x := "Automaton") (by decide)).ty c0 ha
        have is := (T.own (x := "Automaton") (by decide)).is "Automaton" (by decide)
        refine ⟨_, rfl, _, .ref _, _, _, _, rfl, .own _, ty, is, _, rfl, ?_⟩
        refine ifT (by decide +kernel) ?_
        exact ⟨_, rfl, a, _, dx, _, _, rfl, ha, c0, a1, rfl, _, rfl, a, _, dx, _, _, rfl, ha, c0, a2, rfl, _, _, rfl, hnx _ _ ⟨t, rfl, rfl, Rt⟩⟩
      · have ty := (T.own (x := "Language") (by decide)).ty c1 ha
        have is := (T.own (x := "Language") (by decide)).is "Automaton" (by decide)
        obtain ⟨dy, t, u', v', hm, Rt, _, _⟩ := M
        refine ⟨_, rfl, _, .ref _, _, _, _, rfl, .own _, ty, is, _, rfl, ?_⟩
        refine ifF (by decide +kernel) ?_
        exact ⟨_, rfl, a, _, dx, _, _, rfl, ha, c1, l1, rfl, p, _, dy, _, _, rfl, hm, cm, r0, rfl, _, _, rfl, hnx _ _ ⟨t, rfl, rfl, Rt⟩⟩
end
end K67

set_option Elab.async false
set_option linter.all false
set_option maxRecDepth 100000
set_option maxHeartbeats 8000000
namespace K67
open PySem PySem.Spec PyProof.Rows L2 Lf
/-- a thing that may be asked -/
structure Ask (K : PySem.W.Frag) (H : Hp) (x : Addr) (rows : List (List Nat)) (wd start : Nat) (acc : List Nat) : Prop where
  t : Thg K H x rows start acc
  f : FormM rows wd
  n : rows.length ≤ 500
  s : start < rows.length
  a : ∀ i ∈ acc, i < rows.length
theorem Ask.same {K : PySem.W.Frag} {H H' : Hp} {x : Addr} {rows : List (List Nat)} {wd start : Nat} {acc : List Nat} (h : Ask K H x rows wd start acc) (e : Same H H') : Ask K H' x rows wd start acc := ⟨h.t.same e, h.f, h.n, h.s, h.a⟩
def spAcc (K : PySem.W.Frag) : Sp := fun vs H Q E => ∃ a y rows wd st acc, vs = [.ref a, y] ∧ Ask K H a rows wd st acc ∧
  ((∃ z : List Nat, y = .str (ws z) ∧ z.length ≤ 300 ∧ (∀ c ∈ z, c < wd) ∧ ∀ H', Same H H' → Q (.bl (decide (lead rows st z ∈ acc))) H') ∨
   (∃ o, TxtK K H y o ∧ (∀ z, o = some z → z.length ≤ 1000) ∧ okWd wd o = false ∧ ∀ d H', H d = none → Same H H' → H' d = some (.xd [("word", y)]) → E (.ref (He.ga K "NoWord")) (some d) H'))
theorem sign_ix {c : Nat} (h : c < 4) : Builtin.Str.occurrences ("abcdefghijklmnopqrst" : Str) ⟨#[97 + c]⟩ 0 ("abcdefghijklmnopqrst" : Str).length 1 = [c] := by
  have : c = 0 ∨ c = 1 ∨ c = 2 ∨ c = 3 := by omega
  rcases this with rfl | rfl | rfl | rfl <;> decide +kernel
theorem okWd_ws {wd : Nat} {z : List Nat} (l : z.length ≤ 300) (h : ∀ c ∈ z, c < wd) : okWd wd (some (ws z)) = true := by
  have e : (ws z).cps.toList = z.map fun c => 97 + c := rfl
  show isWd wd _ = true
  unfold isWd
  rw [e, List.length_map, decide_eq_true l, Bool.true_and, List.all_map]
  refine List.all_eq_true.mpr fun c hc => ?_
  exact decide_eq_true (List.mem_map.mpr ⟨c, List.mem_range.mpr (h c hc), rfl⟩)
section
variable {P : Program} {w : World} {K : PySem.W.Frag} {mg : Str → Option Value} {base : Heap}
theorem scAcc : FnScope ["thing", "word", "rows", "state", "marks", "sign"] ["thing", "word"] (defScope s_accepts) := ⟨rfl, rfl, rfl, by decide +kernel, rfl, by decide +kernel, by decide +kernel⟩
theorem ok_acc {f : Addr} {fd : FuncData} {q : Str} (F : FunD K "accepts" q (defArgs s_accepts) (defBody s_accepts) (defScope s_accepts) [] [] f fd) (T : Txt P w K mg base)
    (DS : Def P w K mg base CX0 2 "_states_of" ["thing"] (spSt K)) (DW : Def P w K mg base CX0 1 "is_word" ["thing", "letters", "most"] (spWord K))
    (EW : Err1 P w K mg base "NoWord" "word" "refused noword") : FnOk P w K mg base (L2.CX P w) 3 f fd ["thing", "word"] (spAcc K) := by
  obtain ⟨t2, g2⟩ := T.it 42 "MOST_WORD" 300 rfl
  obtain ⟨t4, g4⟩ := T.st 44 "SIGNS" "abcdefghijklmnopqrst" rfl
  have zn : mg "len" = none := T.fr 52 "len" rfl
  refine F.ok scAcc (fun vs H Q E h => ?_) (fun cdv A outer s H vs Q E hr h => ?_)
  · obtain ⟨a, y, rows, wd, st, acc, rfl, _⟩ := h
    rfl
  · obtain ⟨a, y, rows, wd, st, acc, rfl, AK, h⟩ := h
    have r1 : Room 1 _ := hr.mono (by decide)
    refine ⟨_, pss_cons (ps_asg (pe_def DS hr pass0 rfl (pa_cons (pv 0) pa_nil)) (pg_tup rfl (pgs_cons (pg_name (i := 2) scAcc.nd rfl (.inl rfl)) (pgs_cons (pg_name (i := 3) scAcc.nd rfl (.inl rfl)) (pgs_cons (pg_name (i := 4) scAcc.nd rfl (.inl rfl)) pgs_nil)))))
      (pss_cons (ps_if (pt_not (pt_val (pe_def DW r1 pass0 rfl (pa_cons (pv 1) (pa_cons (pe_callB call_len_seq rfl zn boot_len (pa_cons (pe_ix ix_tup (pv 2) pe_int (fun _ _ => rfl)) pa_nil)) (pa_cons (pe_gint rfl g2) pa_nil)))))) (pss_one (ps_raise rfl (takes_of rfl rfl rfl rfl) (pmk_err1 EW hr rfl (pv 1)))) pss_nil)
      (PSs.nox (pss_cons (ps_for PassesOwn.never rfl (pi_str (pv 1)) (pg_name (i := 5) scAcc.nd rfl (.inl rfl))
        (pss_one (ps_set (i := 3) scAcc.nd rfl (.inl rfl) (pe_ix ix_tup (pe_ix ix_tup (pv 2) (pv 3) (fun _ _ => rfl)) (pe_bm PySem.F.plainAttrs_str PySem.F.slot_str_index PySem.F.type_str_index mt_sindex (pe_gstr rfl g4) (pa_cons (pv 5) pa_nil)) (fun _ _ => rfl)))))
      (pss_one (ps_ret (pe_ix ix_list (pv 4) (pv 3) (fun _ _ => rfl))))))), ?_⟩
    have FM := AK.f
    obtain ⟨f1, f2, f3, f4⟩ := id FM
    refine ⟨_, rfl, a, rows, st, acc, rfl, AK.t, f1, AK.n, AK.a, fun T' t pm H1 s1 hT Rt hm => ?_⟩
    obtain ⟨as, sr, la, srow⟩ := Rt.ex
    obtain ⟨a0, h0⟩ := lt_get (show 0 < as.length by omega)
    obtain ⟨row0, hrow0⟩ := lt_get (show 0 < rows.length by omega)
    have lw0 := (f4 row0 (List.mem_of_getElem? hrow0)).1
    refine ⟨T', _, rfl, SqT.of hT, rfl, _, _, rfl, _, _, rfl, _, _, rfl, rfl, ?_⟩
    have tk : ∃ o, TxtK K H1 y o ∧ (∀ z, o = some z → z.length ≤ 1000) := by
      rcases h with ⟨z, rfl, zl, _⟩ | ⟨o, tk, lz, _⟩
      · exact ⟨_, .str _, fun z' e => by cases e; rw [ws_len]; omega⟩
      · exact ⟨o, tk.same s1, lz⟩
    rcases h with ⟨z, rfl, zl, zw, k⟩ | ⟨o, tk, lz, bad, k⟩
    · refine ⟨_, rfl, _, rfl, t, as.map V.ref, 0, .ref a0, rfl, rfl, sr, atI_nat (j := 0) (get_map h0), a0, row0.map nv, rfl, .inr (srow 0 a0 row0 h0 hrow0), _, some (ws z), wd, by rw [List.length_map, lw0], f3, .str _, (fun z' e => by cases e; rw [ws_len]; omega), fun H2 s2 => ⟨_, rfl, ?_⟩⟩
      rw [okWd_ws zl zw]
      refine ifF rfl ?_
      refine ⟨_, rfl, ws z, rfl, ?_⟩
      refine for_it (walk_str (z := ws z)) (fun j σ Hc => ∃ v5 : Option V, σ = [some (.ref a), some (.str (ws z)), some (.ref t), some (nv (lead rows st (z.take j))), some (.ref pm), v5] ∧ Hc = H2) ⟨none, rfl, rfl⟩ (fun _ _ _ _ _ => True.intro) ?_ ?_
      · rintro j y σ Hc H' hj ⟨v5, rfl, rfl⟩ ⟨rfl, c, hc, rfl⟩
        obtain ⟨d, hd, rfl⟩ := ws_at hc
        have dw := zw d (List.mem_of_getElem? hd)
        have sl := lead_lt FM (x := z.take j) AK.s fun c hc => zw c (List.mem_of_mem_take hc)
        obtain ⟨row, g1, g2, g3⟩ := step_lt FM sl dw
        obtain ⟨b, hb⟩ := lt_get (show lead rows st (z.take j) < as.length by rw [la]; exact sl)
        refine ⟨_, rfl, _, rfl, t, as.map V.ref, _, .ref b, rfl, rfl, Lf.SqT.same s2 sr, atI_nat (get_map hb), rfl, _, rfl, ("abcdefghijklmnopqrst" : Str), ⟨#[97 + d]⟩, d, [], rfl, rfl, sign_ix (by omega), b, _, _, nv _, rfl, rfl, Lf.SqT.same s2 (srow _ b row hb g1), atI_nat (get_map g2), some (.str ⟨#[97 + d]⟩), by rw [take_snoc hd, lead_snoc]; rfl, rfl⟩
      · rintro σ Hc ⟨v5, rfl, rfl⟩
        rw [ws_size, List.take_length]
        have sl := lead_lt FM (x := z) AK.s zw
        refine ⟨_, rfl, _, rfl, pm, _, _, .bl (decide (lead rows st z ∈ acc)), rfl, rfl, SqL.of (s2 _ _ hm), atI_nat (j := lead rows st z) ?_, k _ (s1.trans s2)⟩
        unfold mks
        rw [List.getElem?_map, List.getElem?_range sl]
        rfl
    · refine ⟨_, rfl, _, rfl, t, as.map V.ref, 0, .ref a0, rfl, rfl, sr, atI_nat (j := 0) (get_map h0), a0, row0.map nv, rfl, .inr (srow 0 a0 row0 h0 hrow0), y, o, wd, by rw [List.length_map, lw0], f3, tk.same s1, lz, fun H2 s2 => ⟨_, rfl, ?_⟩⟩
      rw [bad]
      refine ifT rfl ?_
      have s12 := s1.trans s2
      exact ⟨_, rfl, fun d H' nd sd hd => k d H' (nil_of s12 nd) (s12.trans sd) hd⟩
end
end K67

set_option Elab.async false
set_option linter.all false
set_option maxRecDepth 100000
set_option maxHeartbeats 0
namespace K67
open PySem PySem.Spec PyProof.Rows L2
section
variable {P : Program} {w : World} {K : PySem.W.Frag} {mg : Str → Option Value} {base : Heap}
theorem Txt.ini (T : Txt P w K mg base) (i : Nat) {p : Str × List Str} (h : inis[i]? = some p := by rfl) : iniB K p = true ∧ isB K p.1 = true := by
  have z := (He.ba T.m).1
  exact He.ba (List.all_eq_true.mp z p (List.mem_of_getElem? h))
structure IniK (K : PySem.W.Frag) (p : Str × List Str) : Prop where
  c : Lf.ErrC K (He.ga K p.1)
  i : PySem.W.findIn K (.ref (He.ga K p.1)) "__init__" = some (some (.ref (He.ma K (He.ga K p.1) "__init__")))
  t : PySem.W.typeIn K (.ref (He.ma K (He.ga K p.1) "__init__")) = some (.type "function")
  f : ∀ f ∈ p.2, PySem.W.findIn K (.ref (He.ga K p.1)) f = some none
theorem iniB_ok {p : Str × List Str} (h : iniB K p = true) : IniK K p := by
  obtain ⟨h1, h⟩ := He.ba h
  obtain ⟨h2, h⟩ := He.ba h
  obtain ⟨h3, h4⟩ := He.ba h
  exact ⟨Lf.errB_ok h1, of_decide_eq_true h2, of_decide_eq_true h3, fun f hf => of_decide_eq_true (List.all_eq_true.mp h4 f hf)⟩
theorem tl_NoNumber (T : Txt P w K mg base) : Lf.Tells P w K mg base (He.ga K "NoNumber") "refused nonumber" := by
  obtain ⟨fd, F⟩ := T.d.def_ 7 (d := d_NoNumber_told) rfl
  have m : Meth K (He.ga K "NoNumber") "told" (He.ma K (He.ga K "NoNumber") "told") := He.meth_ok (T.d.fact 83 (f := .meth "NoNumber" "told") rfl)
  have sc : FnScope ["self"] ["self"] d_NoNumber_told.scope := ⟨rfl, rfl, rfl, by decide +kernel, rfl, by decide +kernel, by decide +kernel⟩
  have o : FnOk P w K mg base CX0 1 (He.fAd K d_NoNumber_told.at_) fd ["self"] (Lf.spTold "refused nonumber") := Lf.told_ok F sc
  have b : L2.Binds K fd ["self"] [] := F.bindsN fun _ _ _ _ _ _ us hl => match us, hl with | [_], _ => rfl
  exact ⟨_, fd, m, o, b⟩
theorem er_NoNumber (T : Txt P w K mg base) : Lf.Err1 P w K mg base "NoNumber" "number" "refused nonumber" := by
  have k : IniK K ("NoNumber", ["number"]) := iniB_ok (T.ini 0).1
  obtain ⟨fd, F⟩ := T.d.def_ 6 (d := d_NoNumber_init) rfl
  have sc : FnScope ["self", "number"] ["self", "number"] d_NoNumber_init.scope := ⟨rfl, rfl, rfl, by decide +kernel, rfl, by decide +kernel, by decide +kernel⟩
  have n0 : PySem.W.findIn K (.ref (He.ga K "NoNumber")) "number" = some none := k.f _ (by simp)
  have o : FnOk P w K mg base CX0 1 (He.fAd K d_NoNumber_init.at_) fd ["self", "number"] (Lf.spIni1 (He.ga K "NoNumber") "number") := Lf.ini1_ok k.c.o n0 F sc
  have b : L2.Binds K fd ["self", "number"] [] := F.bindsN fun _ _ _ _ _ _ us hl => match us, hl with | [_, _], _ => rfl
  have g : mg "NoNumber" = some (.ref (He.ga K "NoNumber")) := T.gl 1 "NoNumber" rfl
  exact ⟨g, k.c, n0, tl_NoNumber T, _, fd, k.i, k.t, o, b⟩
theorem tl_NoMonoid (T : Txt P w K mg base) : Lf.Tells P w K mg base (He.ga K "NoMonoid") "refused nomonoid" := by
  obtain ⟨fd, F⟩ := T.d.def_ 9 (d := d_NoMonoid_told) rfl
  have m : Meth K (He.ga K "NoMonoid") "told" (He.ma K (He.ga K "NoMonoid") "told") := He.meth_ok (T.d.fact 84 (f := .meth "NoMonoid" "told") rfl)
  have sc : FnScope ["self"] ["self"] d_NoMonoid_told.scope := ⟨rfl, rfl, rfl, by decide +kernel, rfl, by decide +kernel, by decide +kernel⟩
  have o : FnOk P w K mg base CX0 1 (He.fAd K d_NoMonoid_told.at_) fd ["self"] (Lf.spTold "refused nomonoid") := Lf.told_ok F sc
  have b : L2.Binds K fd ["self"] [] := F.bindsN fun _ _ _ _ _ _ us hl => match us, hl with | [_], _ => rfl
  exact ⟨_, fd, m, o, b⟩
theorem er_NoMonoid (T : Txt P w K mg base) : Lf.Err2 P w K mg base "NoMonoid" "what" "place" "refused nomonoid" := by
  have k : IniK K ("NoMonoid", ["what", "place"]) := iniB_ok (T.ini 1).1
  obtain ⟨fd, F⟩ := T.d.def_ 8 (d := d_NoMonoid_init) rfl
  have sc : FnScope ["self", "what", "place"] ["self", "what", "place"] d_NoMonoid_init.scope := ⟨rfl, rfl, rfl, by decide +kernel, rfl, by decide +kernel, by decide +kernel⟩
  have n0 : PySem.W.findIn K (.ref (He.ga K "NoMonoid")) "what" = some none := k.f _ (by simp)
  have n1 : PySem.W.findIn K (.ref (He.ga K "NoMonoid")) "place" = some none := k.f _ (by simp)
  have o : FnOk P w K mg base CX0 1 (He.fAd K d_NoMonoid_init.at_) fd ["self", "what", "place"] (Lf.spIni2 (He.ga K "NoMonoid") "what" "place") := Lf.ini2_ok k.c.o n0 n1 F sc
  have b : L2.Binds K fd ["self", "what", "place"] [] := F.bindsN fun _ _ _ _ _ _ us hl => match us, hl with | [_, _, _], _ => rfl
  have g : mg "NoMonoid" = some (.ref (He.ga K "NoMonoid")) := T.gl 2 "NoMonoid" rfl
  exact ⟨g, k.c, n0, n1, tl_NoMonoid T, _, fd, k.i, k.t, o, b⟩
theorem tl_NoWord (T : Txt P w K mg base) : Lf.Tells P w K mg base (He.ga K "NoWord") "refused noword" := by
  obtain ⟨fd, F⟩ := T.d.def_ 11 (d := d_NoWord_told) rfl
  have m : Meth K (He.ga K "NoWord") "told" (He.ma K (He.ga K "NoWord") "told") := He.meth_ok (T.d.fact 85 (f := .meth "NoWord" "told") rfl)
  have sc : FnScope ["self"] ["self"] d_NoWord_told.scope := ⟨rfl, rfl, rfl, by decide +kernel, rfl, by decide +kernel, by decide +kernel⟩
  have o : FnOk P w K mg base CX0 1 (He.fAd K d_NoWord_told.at_) fd ["self"] (Lf.spTold "refused noword") := Lf.told_ok F sc
  have b : L2.Binds K fd ["self"] [] := F.bindsN fun _ _ _ _ _ _ us hl => match us, hl with | [_], _ => rfl
  exact ⟨_, fd, m, o, b⟩
theorem er_NoWord (T : Txt P w K mg base) : Lf.Err1 P w K mg base "NoWord" "word" "refused noword" := by
  have k : IniK K ("NoWord", ["word"]) := iniB_ok (T.ini 2).1
  obtain ⟨fd, F⟩ := T.d.def_ 10 (d := d_NoWord_init) rfl
  have sc : FnScope ["self", "word"] ["self", "word"] d_NoWord_init.scope := ⟨rfl, rfl, rfl, by decide +kernel, rfl, by decide +kernel, by decide +kernel⟩
  have n0 : PySem.W.findIn K (.ref (He.ga K "NoWord")) "word" = some none := k.f _ (by simp)
  have o : FnOk P w K mg base CX0 1 (He.fAd K d_NoWord_init.at_) fd ["self", "word"] (Lf.spIni1 (He.ga K "NoWord") "word") := Lf.ini1_ok k.c.o n0 F sc
  have b : L2.Binds K fd ["self", "word"] [] := F.bindsN fun _ _ _ _ _ _ us hl => match us, hl with | [_, _], _ => rfl
  have g : mg "NoWord" = some (.ref (He.ga K "NoWord")) := T.gl 3 "NoWord" rfl
  exact ⟨g, k.c, n0, tl_NoWord T, _, fd, k.i, k.t, o, b⟩
theorem tl_TooMany (T : Txt P w K mg base) : Lf.Tells P w K mg base (He.ga K "TooMany") "refused toomany" := by
  obtain ⟨fd, F⟩ := T.d.def_ 13 (d := d_TooMany_told) rfl
  have m : Meth K (He.ga K "TooMany") "told" (He.ma K (He.ga K "TooMany") "told") := He.meth_ok (T.d.fact 86 (f := .meth "TooMany" "told") rfl)
  have sc : FnScope ["self"] ["self"] d_TooMany_told.scope := ⟨rfl, rfl, rfl, by decide +kernel, rfl, by decide +kernel, by decide +kernel⟩
  have o : FnOk P w K mg base CX0 1 (He.fAd K d_TooMany_told.at_) fd ["self"] (Lf.spTold "refused toomany") := Lf.told_ok F sc
  have b : L2.Binds K fd ["self"] [] := F.bindsN fun _ _ _ _ _ _ us hl => match us, hl with | [_], _ => rfl
  exact ⟨_, fd, m, o, b⟩
theorem er_TooMany (T : Txt P w K mg base) : Lf.Err1 P w K mg base "TooMany" "most" "refused toomany" := by
  have k : IniK K ("TooMany", ["most"]) := iniB_ok (T.ini 3).1
  obtain ⟨fd, F⟩ := T.d.def_ 12 (d := d_TooMany_init) rfl
  have sc : FnScope ["self", "most"] ["self", "most"] d_TooMany_init.scope := ⟨rfl, rfl, rfl, by decide +kernel, rfl, by decide +kernel, by decide +kernel⟩
  have n0 : PySem.W.findIn K (.ref (He.ga K "TooMany")) "most" = some none := k.f _ (by simp)
  have o : FnOk P w K mg base CX0 1 (He.fAd K d_TooMany_init.at_) fd ["self", "most"] (Lf.spIni1 (He.ga K "TooMany") "most") := Lf.ini1_ok k.c.o n0 F sc
  have b : L2.Binds K fd ["self", "most"] [] := F.bindsN fun _ _ _ _ _ _ us hl => match us, hl with | [_, _], _ => rfl
  have g : mg "TooMany" = some (.ref (He.ga K "TooMany")) := T.gl 4 "TooMany" rfl
  exact ⟨g, k.c, n0, tl_TooMany T, _, fd, k.i, k.t, o, b⟩
theorem tl_NoAutomaton (T : Txt P w K mg base) : Lf.Tells P w K mg base (He.ga K "NoAutomaton") "refused noautomaton" := by
  obtain ⟨fd, F⟩ := T.d.def_ 15 (d := d_NoAutomaton_told) rfl
  have m : Meth K (He.ga K "NoAutomaton") "told" (He.ma K (He.ga K "NoAutomaton") "told") := He.meth_ok (T.d.fact 87 (f := .meth "NoAutomaton" "told") rfl)
  have sc : FnScope ["self"] ["self"] d_NoAutomaton_told.scope := ⟨rfl, rfl, rfl, by decide +kernel, rfl, by decide +kernel, by decide +kernel⟩
  have o : FnOk P w K mg base CX0 1 (He.fAd K d_NoAutomaton_told.at_) fd ["self"] (Lf.spTold "refused noautomaton") := Lf.told_ok F sc
  have b : L2.Binds K fd ["self"] [] := F.bindsN fun _ _ _ _ _ _ us hl => match us, hl with | [_], _ => rfl
  exact ⟨_, fd, m, o, b⟩
theorem er_NoAutomaton (T : Txt P w K mg base) : Lf.Err1 P w K mg base "NoAutomaton" "what" "refused noautomaton" := by
  have k : IniK K ("NoAutomaton", ["what"]) := iniB_ok (T.ini 4).1
  obtain ⟨fd, F⟩ := T.d.def_ 14 (d := d_NoAutomaton_init) rfl
  have sc : FnScope ["self", "what"] ["self", "what"] d_NoAutomaton_init.scope := ⟨rfl, rfl, rfl, by decide +kernel, rfl, by decide +kernel, by decide +kernel⟩
  have n0 : PySem.W.findIn K (.ref (He.ga K "NoAutomaton")) "what" = some none := k.f _ (by simp)
  have o : FnOk P w K mg base CX0 1 (He.fAd K d_NoAutomaton_init.at_) fd ["self", "what"] (Lf.spIni1 (He.ga K "NoAutomaton") "what") := Lf.ini1_ok k.c.o n0 F sc
  have b : L2.Binds K fd ["self", "what"] [] := F.bindsN fun _ _ _ _ _ _ us hl => match us, hl with | [_, _], _ => rfl
  have g : mg "NoAutomaton" = some (.ref (He.ga K "NoAutomaton")) := T.gl 5 "NoAutomaton" rfl
  exact ⟨g, k.c, n0, tl_NoAutomaton T, _, fd, k.i, k.t, o, b⟩
end
end K67

set_option Elab.async false
set_option linter.all false
set_option maxRecDepth 100000
set_option maxHeartbeats 4000000
/-! Functions that are promised only where no repr is under way; repr of a list of ints. -/
namespace Lf
open PySem PySem.Spec PyProof.Rows L2
/-- a promise of calls from where no repr is under way -/
structure FnG (P : Program) (w : World) (K : PySem.W.Frag) (mg : Str → Option Value) (base : Heap) (CX : CXT) (k : Nat) (f : Addr) (fd : FuncData) (ps : List Str) (sp : Sp) : Prop where
  len : ∀ vs H Q E, sp vs H Q E → vs.length = ps.length
  run : ∀ (A : Around) (outer : List Env) (s : Shared) (H : Hp) (args : Args) (us : List Value) (vs : List V) (Q : VK) (E : XK), A.guards = some [] → Room k A → Env0 P w K mg base A outer s H → BindsTo s fd args (ps.zip us) → Vals vs us → sp vs H Q E →
    codeAny (model P w) A (.call (.ref f) args) (CR CX outer P w H s Q E) s
section
variable {CX : CXT} {P : Program} {w : World} {K : PySem.W.Frag} {mg : Str → Option Value} {base : Heap} {x qual : Str} {params : Arguments} {body : List Stmt} {scope : Scope} {f : Addr} {fd : FuncData}
theorem okG {N ps : List Str} {k : Nat} {sp : Sp} (F : FunD K x qual params body scope [] [] f fd) (S : FnScope N ps scope) (len : ∀ vs H Q E, sp vs H Q E → vs.length = ps.length)
    (hbody : ∀ (cdv : Value) (A : Around) (outer : List Env) (s : Shared) (H : Hp) (vs : List V) (Q : VK) (E : XK), A.guards = some [] → Room k (A.deeper (envOfC qual scope s.heap.objs.size f cdv)) → sp vs H Q E →
      ∃ t, PSs (cxOf CX P w K mg base N qual scope f cdv A outer s H E) body t ∧ t { nx := fun _ H' => Q .non H', rt := Q } (L2.start N vs) H) : FnG P w K mg base CX (k + 1) f fd ps sp := by
  obtain ⟨oc, od, dV, kV, doc, pm, an, cdv, ct, osl, rfl, lk, hcd, _, _⟩ := F.ex
  refine ⟨len, fun A outer s H args us vs Q E hgd hr e0 hb r hsp => ?_⟩
  have hl := len _ _ _ _ hsp
  have KX : K.In s.heap := e0.mod.kin.keeps fun b o e => (e0.bs b o e).1
  have hk : ∀ y ∈ ps.zip us, scope.names.lookup y.1 = some .local ∨ (scope.names.lookup y.1 = some .cell ∧ ((cellsFrom (s.heap.objs.size + 1) scope.names []).lookup y.1).isSome = true) := fun y hy =>
    (S.par y.1 (List.of_mem_zip hy).1).imp id fun q => ⟨q, PySem.W.cellsFrom_some _ _ _ (.inl q)⟩
  refine codeAny_call_function hr.depth (KX _ _ lk) rfl S.co S.gen rfl (PySem.W.codeRec_of KX hcd) (hb _ _ _ _ (wpAny_newFunctionEnv_cells S.kind hk fun env he s1 g => ?_))
  subst he
  refine ⟨(e0.mod.nolimit.keeps fun b o e => (e0.bs b o e).1).keeps g.toInCall.keep, codeAny_func ?_⟩
  obtain ⟨t, ht, hq⟩ := hbody cdv A outer s H vs Q E hgd (hr.deeper _) hsp
  refine wpAny_mono (ht.run [] s1 (L2.start N vs) H _ (inv_start S hr.hd e0 hl r g) hq) (fun fl s' hs => ?_) fun _ _ hs => hs
  cases fl with
  | brk => exact hs.elim fun _ z => z.elim fun _ z => False.elim z.2
  | cont => exact hs.elim fun _ z => z.elim fun _ z => False.elim z.2
  | next =>
    obtain ⟨_, H', J, q⟩ := hs
    exact ⟨V.non, H', J.os, J.bare, J.base, J.hok, rfl, q⟩
  | ret u =>
    obtain ⟨v, _, H', J, rv, q⟩ := hs
    exact ⟨v, H', J.os, J.bare, J.base, J.hok, rv, q⟩
end
/-- a def by its name -/
structure DefG (P : Program) (w : World) (K : PySem.W.Frag) (mg : Str → Option Value) (base : Heap) (CX : CXT) (k : Nat) (x : Str) (ps : List Str) (sp : Sp) : Prop where
  ex : ∃ f fd, mg x = some (.ref f) ∧ PySem.W.keepIn K (.ref f) = true ∧ FnG P w K mg base CX k f fd ps sp ∧ Binds K fd ps []
section
variable {X : Cx} {CX : CXT} {k : Nat} {x : Str} {ps : List Str} {sp : Sp} {E : XK} {e : Expr} {es : List Expr} {t : TA} {p pos : Pos}
theorem pe_defG (D : DefG X.prog X.w X.K X.mg X.base CX k x ps sp) (hgd : X.A.guards = some []) (hr : Room k X.A) (hx : Passes CX X E) (hg : Gl X x) (ha : PA X (e :: es) t)
    (hdb : (x == ("__debug__" : Str)) = false := by decide +kernel) (he : starEach (e :: es) X.env = (false, eval e X.env) :: starEach es X.env := by rfl)
    (hpl : (backTo pos (starEach es X.env)).any (·.1) = false := by rfl) : PE X (.Call (.Name x p) (e :: es) [] pos) (fun σ H Q => t σ H fun vs H1 => sp vs H1 Q E) := by
  obtain ⟨f, fd, g, kp, F, b⟩ := D.ex
  refine ⟨fun pins s σ H Q I h => wpAny_Call_Name_kw (ld_glob I hg g ?_ hdb)⟩
  refine PySem.W.callWith_K (h₀ := X.base) I.ok.mod.kin kp (thn (ha.run pos pins s σ H _ I h) fun us s1 ⟨vs, H1, I1, r, q⟩ => ⟨I1.kIn, ?_⟩) he hpl
  have b' := b s1 us I1.kIn (by rw [List.append_nil, ← r.length]; exact F.len _ _ _ _ q)
  rw [List.append_nil] at b'
  refine wpAny_call (codeAny_mono (F.run X.A X.stack s1 H1 ⟨us, []⟩ us vs Q E hgd hr I1.env0 b' r q) fun r' s' hq => ?_)
  cases r' with
  | error e => exact hx pins σ H1 s1 e s' I1 hq
  | ok fl =>
    cases fl with
    | ret u => exact I1.after hq
    | next => exact False.elim hq
    | brk => exact False.elim hq
    | cont => exact False.elim hq
end
/-! ### repr of a list of ints -/
abbrev reprL (ns : List Int) : Str := (PyData.list (ns.map PyData.int)).shown
theorem reads_ints {h : Heap} : ∀ {ns : List Int} {us : List Value}, Vals (ns.map V.int) us → ReadsAll h us (ns.map PyData.int) []
  | [], _, r => by
    rw [List.map_nil] at r
    cases r
    exact .nil
  | n :: ns, _, r => by
    rw [List.map_cons] at r
    cases r with
    | cons a b =>
      obtain ⟨t, rfl⟩ := (show ∃ t, _ = Value.int n t from a)
      exact .cons (.int n t) (reads_ints b)
theorem ints_noDict : ∀ (ns : List Int), PyData.hasDictAll (ns.map PyData.int) = false
  | [] => rfl
  | n :: ns => by rw [List.map_cons, PyData.hasDictAll, PyData.hasDict, ints_noDict ns]; rfl
theorem ints_depth : ∀ (ns : List Int), PyData.depthAll (ns.map PyData.int) = 0
  | [] => rfl
  | n :: ns => by rw [List.map_cons, PyData.depthAll, PyData.depth, ints_depth ns]; rfl
theorem call_reprInts {X : Cx} (hg : X.A.guards = some []) (hu : X.A.units + 9 < cLine) : CallR X (.builtin "repr") (fun xs H Q => ∃ p ns, xs = [.ref p] ∧ SqL X.K H p (ns.map V.int) ∧ (PyData.list (ns.map PyData.int)).showable = true ∧ (reprL ns).length ≤ sizeLine ∧ Q (.str (reprL ns)) H) := by
  intro pins s σ H xs us Q I r h
  obtain ⟨p, ns, rfl, hq, sh, hz, q⟩ := h
  obtain ⟨u, rfl, e⟩ := vals1 r
  cases e
  obtain ⟨its, rv, ⟨o, n, e1, e2, e3, e4⟩, _⟩ := I.list hq
  refine repr_of_reads' (h₀ := s.heap) (.list e1 e2 e4 (by rw [List.toList_toArray]; exact reads_ints rv)) sh (fun z => ?_) hg ?_ (fun _ _ z => z) (fun h' u tk hk => ?_) hz
  · rw [PyData.hasDict, ints_noDict] at z
    cases z
  · rw [PyData.depth, ints_depth]
    omega
  · exact ⟨.str (reprL ns), H, I.kept hk, ⟨u, rfl⟩, q⟩
theorem small_text : ∀ n : Nat, n < 300 → ((PyData.int (n : Nat)).shown).length ≤ 3 := by decide +kernel
theorem small_show : ∀ n : Nat, n < 300 → (PyData.int (n : Nat)).showable = true := by decide +kernel
theorem repr_small : ∀ {ns : List Nat}, (∀ n ∈ ns, n < 300) → PyData.showableAll ((ns.map fun n => ((n : Nat) : Int)).map PyData.int) = true ∧ ((PyData.shownAll ((ns.map fun n => ((n : Nat) : Int)).map PyData.int)).map (·.length)).sum ≤ 3 * ns.length ∧ (PyData.shownAll ((ns.map fun n => ((n : Nat) : Int)).map PyData.int)).length = ns.length
  | [], _ => ⟨rfl, Nat.le_refl _, rfl⟩
  | n :: ns, h => by
    obtain ⟨a, b, c⟩ := repr_small (ns := ns) fun m hm => h m (List.mem_cons_of_mem _ hm)
    have h1 := small_text n (h n List.mem_cons_self)
    have h2 := small_show n (h n List.mem_cons_self)
    rw [List.map_cons, List.map_cons]
    refine ⟨?_, ?_, ?_⟩
    · rw [PyData.showableAll, h2, a]
      rfl
    · rw [PyData.shownAll, List.map_cons, List.sum_cons, List.length_cons]
      omega
    · rw [PyData.shownAll, List.length_cons, c, List.length_cons]
/-- repr of numbers below 300 -/
theorem reprOk {ns : List Nat} (h : ∀ n ∈ ns, n < 300) (l : ns.length ≤ 100000) : (PyData.list ((ns.map fun n => ((n : Nat) : Int)).map PyData.int)).showable = true ∧ (reprL (ns.map fun n => ((n : Nat) : Int))).length ≤ sizeLine := by
  obtain ⟨a, b, c⟩ := repr_small h
  refine ⟨by rw [PyData.showable]; exact a, ?_⟩
  have := listText_len_le (PyData.shownAll ((ns.map fun n => ((n : Nat) : Int)).map PyData.int))
  unfold reprL
  rw [PyData.shown, sizeLine_eq]
  omega
end Lf

set_option Elab.async false
set_option linter.all false
set_option maxRecDepth 100000
set_option maxHeartbeats 8000000
/-! told() of a caught error with fields that was raised here. -/
namespace Lf
open PySem PySem.Spec PyProof.Rows L2
section
variable {X : Cx} {a C f : Addr} {o1 : Obj} {pn : List (Addr × Obj)} {d : Option Addr} {m : Str} {fd : FuncData} {sp : Sp} {k : Nat}
/-- the caught error as an instance -/
theorem caught_instX {pins : List (Addr × Obj)} {σ : L2.St} {H : Hp} {s : Shared} (I : Inv (X.suite a ((a, o1) :: pn)) pins σ H s) (z : Zc (.ref C) d o1) (fl : ∃ vs, o1.data = .fields vs) (hd : ∀ dx, d = some dx → ∃ fs, H dx = some (.xd fs) ∧ fs.lookup m = none) :
    ∃ od, PySem.W.InstAt s.heap a o1 C od ∧ PySem.W.shadowIn od m = some false := by
  obtain ⟨g, _⟩ := I.pin (a, o1) (List.mem_append_left _ List.mem_cons_self)
  obtain ⟨vs, hv⟩ := fl
  have nc : PySem.W.notCls o1 = true := by unfold PySem.W.notCls; rw [hv] <;> rfl
  cases d with
  | none => exact ⟨none, ⟨g, z.1, nc, by rw [z.2]; trivial⟩, rfl⟩
  | some dx =>
    obtain ⟨fs, e, lk⟩ := hd dx rfl
    obtain ⟨mA, ns, rel⟩ := (show ObjOk X.prog X.w H s.heap dx (.xd fs) from I.hok dx _ e)
    obtain ⟨od, h2, hk⟩ := lookIn_ns ns
    refine ⟨some od, ⟨g, z.1, nc, by rw [z.2]; exact h2⟩, ?_⟩
    have hm : mA m = none := by
      have r := rel m
      rw [lk] at r
      cases y : mA m with
      | none => rfl
      | some v => rw [y] at r; exact r.elim
    show (PySem.W.lookIn m od).map _ = _
    rw [hk, hm]
    rfl
def tToldX (a : Addr) (d : Option Addr) (m : Str) (sp : Sp) (te : TE) : TE := fun σ H Q => te σ H fun x H1 => x = .ref a ∧ (∀ dx, d = some dx → ∃ fs, H1 dx = some (.xd fs) ∧ fs.lookup m = none) ∧ sp [.ref a] H1 Q E0
/-- e.m() of the caught error e -/
theorem pe_toldX {o : Expr} {te : TE} {pos apos : Pos} {pl : Sem Bool} (T : IsC X.K C) (M : Meth X.K C m f) (F : FnW X.prog X.w X.K X.mg X.base k f fd ["self"] sp) (hb : L2.Binds X.K fd ["self"] []) (hr : L2H.RoomH k X.A) (z : Zc (.ref C) d o1) (fl : ∃ vs, o1.data = .fields vs)
    (he : PE (X.suite a ((a, o1) :: pn)) o te)
    (ht : eval (.Call (.Attribute o m apos) [] [] pos) X.env = (do
      let ov ← eval o X.env
      standAt apos.atName
      let (f, first) ← holding [ov] (getMethod ov m pl)
      callWith pos f first (backTo pos (starEach [] X.env)) (backToKw pos (keywordEach [] X.env))) := by rfl) :
    PE (X.suite a ((a, o1) :: pn)) (.Call (.Attribute o m apos) [] [] pos) (tToldX a d m sp te) := by
  refine ⟨fun pins s σ H Q I h => ?_⟩
  refine PySem.W.methodCall_KW (pl := pl) (thn (he.run pins s σ H _ I h) fun u s1 hh => ?_) ht
  obtain ⟨x, H1, I1, rx, rfl, hd, q⟩ := hh
  obtain rfl : u = Value.ref a := rx
  obtain ⟨mm, fr⟩ := I1.fr
  obtain ⟨od, J, sh⟩ := caught_instX I1 z fl hd
  refine PySem.W.method_exc fr I1.ok.mod.kin J T.ga T.gg M.at_ M.fn sh (PySem.W.callWith_K0 (first := [.ref a]) I1.kIn M.kp ?_)
  have pin := I1.pin (a, o1) (List.mem_append_left _ List.mem_cons_self)
  have pk : L2H.PinOk (X.suite a ((a, o1) :: pn)).stack H1 s1 (a, o1) := ⟨pin.1, pin.2.1, fun hm => (List.mem_cons.mp (I1.stkSub _ hm)).elim pin.2.2.1 pin.2.2.2.1, pin.2.2.2.2⟩
  have room : L2H.RoomH k (X.suite a ((a, o1) :: pn)).A := ⟨hr.dp, hr.un⟩
  have bd := hb s1 [.ref a] I1.kIn rfl
  refine wpAny_call (codeAny_mono (F.run _ _ s1 H1 ⟨[.ref a], []⟩ [.ref a] [.ref a] Q (a, o1) room pk I1.env0 (by simpa using bd) (.cons rfl .nil) q) fun r s' hq => ?_)
  cases r with
  | error e => exact (show False from hq).elim
  | ok fl' =>
    cases fl' with
    | ret u => exact I1.after hq
    | next => exact hq.elim
    | brk => exact hq.elim
    | cont => exact hq.elim
end
end Lf

set_option Elab.async false
set_option linter.all false
set_option maxRecDepth 100000
set_option maxHeartbeats 4000000
/-! What repr tells of data, held against what repr tells. -/
namespace Lf
open PySem PySem.Spec PyProof.Rows L2
/-- data that repr tells, in signs that stand -/
structure Rp (K : PySem.W.Frag) (H : Hp) (v : V) (d : PyData) : Prop where
  dp : Dp K H v d
  sh : d.showable = true
  nd : d.hasDict = false
  de : d.depth ≤ 7
  le : d.shown.length ≤ sizeLine
  ok : PyData.strOk d.shown = true
theorem Rp.same {K : PySem.W.Frag} {H H' : Hp} {v : V} {d : PyData} (h : Rp K H v d) (e : Same H H') : Rp K H' v d := ⟨dp_same e h.dp, h.sh, h.nd, h.de, h.le, h.ok⟩
theorem char_ok : ∀ c < 128, (∀ d ∈ Builtin.Str.reprChar 34 c, d < 1114112) ∧ ∀ d ∈ Builtin.Str.reprChar 39 c, d < 1114112 := by decide +kernel
theorem all_of {x : Str} (h : ∀ c ∈ x.cps.toList, c < 1114112) : PyData.strOk x = true := by
  unfold PyData.strOk
  rw [← Array.all_toList, List.all_eq_true]
  intro c hc
  exact decide_eq_true (h c hc)
theorem fold_signs {q : Nat} (hq : ∀ c < 128, ∀ d ∈ Builtin.Str.reprChar q c, d < 1114112) : ∀ (l : List Nat) (acc : Array Nat), (∀ c ∈ l, c < 128) → (∀ d ∈ acc.toList, d < 1114112) → ∀ d ∈ (l.foldl (fun out c => out ++ (Builtin.Str.reprChar q c).toArray) acc).toList, d < 1114112
  | [], acc, _, h => h
  | c :: r, acc, hl, h => by
    rw [List.foldl_cons]
    refine fold_signs hq r _ (fun d hd => hl d (List.mem_cons_of_mem _ hd)) fun d hd => ?_
    rw [Array.toList_append] at hd
    rcases List.mem_append.mp hd with z | z
    · exact h d z
    · exact hq c (hl c List.mem_cons_self) d z
theorem repr_signs {cs : List Nat} (h : ∀ c ∈ cs, c < 128) : PyData.strOk (reprText (tx cs)) = true := by
  refine all_of fun d hd => ?_
  unfold reprText at hd
  rw [Array.toList_push] at hd
  have hq : reprQuote (tx cs) = 34 ∨ reprQuote (tx cs) = 39 := by
    unfold reprQuote
    split
    · exact .inl rfl
    · exact .inr rfl
  have q1 : reprQuote (tx cs) < 1114112 := by rcases hq with z | z <;> omega
  rcases List.mem_append.mp hd with z | z
  · rw [← Array.foldl_toList] at z
    refine fold_signs (q := reprQuote (tx cs)) ?_ _ _ h ?_ d z
    · intro c hc
      rcases hq with y | y <;> rw [y]
      · exact (char_ok c hc).1
      · exact (char_ok c hc).2
    · intro d hd
      rw [List.mem_singleton.mp hd]
      exact q1
  · rw [List.mem_singleton.mp z]
    exact q1
theorem rp_txt {K : PySem.W.Frag} {H : Hp} {cs : List Nat} (h : ∀ c ∈ cs, c < 128) (l : cs.length ≤ 100000) : Rp K H (.str (tx cs)) (.str (tx cs)) where
  dp := .str _
  sh := rfl
  nd := rfl
  de := by show 0 ≤ 7; decide
  le := by
    have := StrLaws.reprText_len (tx cs) fun c hc => by
      have := h c hc
      have : (128 : Nat) < 16 ^ 8 := by decide
      omega
    rw [tx_len] at this
    show (reprText (tx cs)).length ≤ 16777216
    omega
  ok := repr_signs h
/-- a tuple of two texts -/
theorem dp_pair {K : PySem.W.Frag} {H : Hp} {t : Addr} {a b : Str} (h : H t = some (.tup [.str a, .str b])) : Dp K H (.ref t) (.tuple [.str a, .str b]) := .tup (SqT.of h) (.cons (.str a) (.cons (.str b) .nil))
theorem pair_shaped {a b : Str} (ha : PyData.strOk a = true) (hb : PyData.strOk b = true) : SeqAt.shaped (.tuple [.str a, .str b]) = true := by
  unfold SeqAt.shaped
  simp [PyData.canLay0, PyData.canLayAll0, PyData.depth, PyData.depthAll, ha, hb]
end Lf

set_option Elab.async false
set_option linter.all false
set_option maxRecDepth 100000
set_option maxHeartbeats 4000000
/-! repr of data, or of an empty dict. -/
namespace Lf
open PySem PySem.Spec PyProof.Rows L2
/-- what repr tells of it -/
def RpE (K : PySem.W.Frag) (H : Hp) (v : V) (s : Str) : Prop :=
  (∃ d, Dp K H v d ∧ d.showable = true ∧ d.hasDict = false ∧ d.depth ≤ 7 ∧ d.shown.length ≤ sizeLine ∧ d.shown = s) ∨ ∃ a, v = .ref a ∧ H a = some (.dK []) ∧ s = (PyData.dict []).shown
theorem RpE.same {K : PySem.W.Frag} {H H' : Hp} {v : V} {s : Str} (h : RpE K H v s) (e : Same H H') : RpE K H' v s := by
  rcases h with ⟨d, h1, r⟩ | ⟨a, h1, h2, h3⟩
  · exact .inl ⟨d, dp_same e h1, r⟩
  · exact .inr ⟨a, h1, e _ _ h2, h3⟩
theorem RpE.of {K : PySem.W.Frag} {H : Hp} {v : V} {d : PyData} (h : Rp K H v d) : RpE K H v d.shown := .inl ⟨d, h.dp, h.sh, h.nd, h.de, h.le, rfl⟩
def rRepE (K : PySem.W.Frag) : List V → Hp → VK → Prop := fun xs H Q => ∃ (v : V) (s : Str), xs = [v] ∧ RpE K H v s ∧ Q (.str s) H
theorem call_reprE {X : Cx} (hg : X.A.guards = some []) (hu : X.A.units + 9 < cLine) : CallR X (.builtin "repr") (rRepE X.K) := by
  intro pins s σ H xs us Q I r h
  obtain ⟨v, x, rfl, h, q⟩ := h
  rcases h with ⟨d, h1, h2, h3, h4, h5, rfl⟩ | ⟨a, rfl, ha, rfl⟩
  · exact call_reprD hg hu pins s σ H [v] us Q I r ⟨v, d, rfl, h1, h2, h3, h4, h5, q⟩
  · obtain ⟨u, rfl, rv⟩ := vals1 r
    obtain rfl : u = Value.ref a := rv
    obtain ⟨_, ns, vs, kv, o, es, ep, ho, ex, hd, _, pr, _⟩ := I.hok a _ ha
    have e0 : vs = [] := by
      cases kv
      rfl
    subst e0
    have e1 : es.toList = [] := by
      revert pr
      generalize es.toList = z
      intro pr
      cases pr
      rfl
    have hn : a ≠ sysModules := by simpa using ns
    have rd : Reads s.heap (.ref a) (.dict []) [a] := by
      refine .dict (as := []) (bs := []) ho ex.1 hd ?_ ?_
      · rw [e1]
        exact .nil
      · rw [e1]
        exact .nil
    refine repr_of_reads' (h₀ := s.heap) rd (by decide +kernel) (fun _ m => hn (List.mem_singleton.mp m).symm) hg ?_ (fun _ _ z => z) (fun h' u tk hk => ⟨.str _, H, I.kept hk, ⟨u, rfl⟩, q⟩) (by decide +kernel)
    have : (PyData.dict []).depth ≤ 7 := by decide +kernel
    omega
end Lf

set_option Elab.async false
set_option linter.all false
set_option maxRecDepth 100000
set_option maxHeartbeats 8000000
namespace K67
open PySem PySem.Spec PyProof.Rows L2 Lf
def spRef (K : PySem.W.Frag) : Sp := fun vs H Q _ => ∃ a y rows wd st acc o sh, vs = [.ref a, y] ∧ Ask K H a rows wd st acc ∧ TxtK K H y o ∧ (∀ z, o = some z → z.length ≤ 1000) ∧ okWd wd o = false ∧ RpE K H y sh ∧ ∀ H', Same H H' → Q (.bl true) H'
/-- what stands behind the clause -/
def tsRef (K : PySem.W.Frag) : Addr → Value → Option Addr → TS := fun a cls d D σ H =>
  cls = .ref (He.ga K "NoWord") ∧ σ[2]? = some (some (.ref a)) ∧ ∃ (dd : Addr) (v : V) (sh : Str), d = some dd ∧ σ[1]? = some (some v) ∧ H dd = some (.xd [("word", v)]) ∧ RpE K H v sh ∧ D.rt (.bl true) H
section
variable {P : Program} {w : World} {K : PySem.W.Frag} {mg : Str → Option Value} {base : Heap}
theorem scTold : FnScope ["self"] ["self"] d_NoWord_told.scope := ⟨rfl, rfl, rfl, by decide +kernel, rfl, by decide +kernel, by decide +kernel⟩
theorem scRef : FnScope ["_law_thing", "_law_word", "e"] ["_law_thing", "_law_word"] (defScope s_L_refused) := ⟨rfl, rfl, rfl, by decide +kernel, rfl, by decide +kernel, by decide +kernel⟩
theorem ok_ref {f : Addr} {fd : FuncData} {q : Str} (F : FunD K "_law_refused" q (defArgs s_L_refused) (defBody s_L_refused) (defScope s_L_refused) [] [] f fd) (T : Txt P w K mg base)
    {fs : Addr} {fds : FuncData} (gs : mg "accepts" = some (.ref fs)) (ks : PySem.W.keepIn K (.ref fs) = true) (FS : FnOk P w K mg base (L2.CX P w) 3 fs fds ["thing", "word"] (spAcc K)) (bS : Binds K fds ["thing", "word"] []) :
    FnG P w K mg base CX0 4 f fd ["_law_thing", "_law_word"] (spRef K) := by
  have EW := er_NoWord T
  have zr : mg "repr" = none := T.fr 56 "repr" rfl
  have x1 : PySem.W.exmOne K (.ref (He.ga K "NoWord")) (.ref (He.ga K "NoWord")) = some true := He.exm_ok (T.d.fact 107 (f := .exm "NoWord" "NoWord" true) rfl)
  obtain ⟨fdt, Ft⟩ := T.d.def_ 11 (d := d_NoWord_told) rfl
  have M : Meth K (He.ga K "NoWord") "told" (He.ma K (He.ga K "NoWord") "told") := He.meth_ok (T.d.fact 85 (f := .meth "NoWord" "told") rfl)
  have FW : FnW P w K mg base 1 (He.fAd K d_NoWord_told.at_) fdt ["self"] (Lf.spTold "refused noword") := Lf.told_okW Ft scTold
  have bT : L2.Binds K fdt ["self"] [] := Ft.bindsN fun _ _ _ _ _ _ us hl => match us, hl with | [_], _ => rfl
  refine okG F scRef (fun vs H Q E h => ?_) (fun cdv A outer s H vs Q E hgd hr h => ?_)
  · obtain ⟨a, y, rows, wd, st, acc, o, sh, rfl, _⟩ := h
    rfl
  · obtain ⟨a, y, rows, wd, st, acc, o, sh, rfl, AK, tk, lz, bad, rp, k⟩ := h
    have hu : (A.deeper (envOfC q (defScope s_L_refused) s.heap.objs.size f cdv)).units + 9 < cLine := by have := hr.un; omega
    have room : L2H.RoomH 1 (A.deeper (envOfC q (defScope s_L_refused) s.heap.objs.size f cdv)) := ⟨by have := hr.dp; omega, by have := hr.un; omega⟩
    refine ⟨_, PSs.nox (pss_cons (ps_tryA (X := (cxOf CX0 P w K mg base ["_law_thing", "_law_word", "e"] q (defScope s_L_refused) f cdv A outer s H E).nox)
      (l := [(.ref (He.ga K "NoWord"), some 2, tsRef K), (.ref (He.ga K "FoldError"), none, fun _ _ _ => fun D _ H => D.rt (.bl false) H)])
      rfl rfl scRef.nd LamX.takes0 (fun W pn xe tk _ => pss_one (ps_expr (pe_callS FS hr rfl gs ks bS (fun σ => passAt tk σ) (pa_cons (pv 0) (pa_cons (pv 1) pa_nil)))))
      (.as (i := 2) ⟨rfl, by decide +kernel, .inl EW.g⟩ rfl rfl (fun a o cls d pn z fl => ?s1)
      (.plain ⟨rfl, by decide +kernel, .inl (T.gl 0 "FoldError" rfl)⟩ (fun a o cls d pn _ _ => pss_one (ps_ret pe_bl)) .nil)))
      (pss_one (ps_ret pe_bl))), ?fin⟩
    case s1 =>
      refine pss_some fun D σ H' h' => ?_
      obtain ⟨rfl, h2, dd, v, sh, rfl, h1, hdd, rp, k⟩ := h'
      refine ⟨_, pss_one (ps_ret (pe_and (pe_cmpR op_eq (pe_callB (call_reprE (by exact hgd) (by exact hu)) rfl zr boot_repr (pa_cons (pe_xf (X := (cxOf CX0 P w K mg base ["_law_thing", "_law_word", "e"] q (defScope s_L_refused) f cdv A outer s H E).nox) EW.c.x EW.no z fl (pv 2)) pa_nil)) (pe_callB (call_reprE (by exact hgd) (by exact hu)) rfl zr boot_repr (pa_cons (pv 1) pa_nil)) (nomark _))
        (pe_one (pe_cmpR op_eq ((by exact pe_toldX (X := (cxOf CX0 P w K mg base ["_law_thing", "_law_word", "e"] q (defScope s_L_refused) f cdv A outer s H E).nox) EW.c.i M FW bT room z fl (pv 2)) :
          PE ((cxOf CX0 P w K mg base ["_law_thing", "_law_word", "e"] q (defScope s_L_refused) f cdv A outer s H E).nox.suite a ((a, o) :: pn)) _ (tToldX a (some dd) "told" (Lf.spTold "refused noword") (tVar 2))) pe_str (nomark _))))), ?_⟩
      refine ⟨_, h2, rfl, rfl, dd, _, v, rfl, hdd, rfl, v, sh, rfl, rp, ?_⟩
      refine ⟨_, h1, v, sh, rfl, rp, rfl, _, rfl, ?_⟩
      refine ifT (by simp) ?_
      refine ⟨_, h2, rfl, fun dx e => ⟨[("word", v)], by cases e; exact hdd, rfl⟩, _, rfl, rfl, ?_⟩
      rw [decide_eq_true rfl]
      exact k
    case fin =>
      refine ⟨_, rfl, _, rfl, a, y, rows, wd, st, acc, rfl, AK, .inr ⟨o, tk, lz, bad, fun d H' nd sd hd => fun ln => ⟨true, x1, fun _ b nb => ⟨rfl, rfl, d, y, sh, rfl, rfl, hd, rp.same sd, k _ sd⟩, fun z => nomatch z⟩⟩⟩
end
end K67

set_option Elab.async false
set_option linter.all false
set_option maxRecDepth 100000
set_option maxHeartbeats 8000000
namespace K67
/-- the elements whose act leads the first state to a marked one -/
def accOf (found : List (List Nat)) (first : Nat) (mk : List Nat) : List Nat := (List.range found.length).filter fun k => decide ((found.getD k []).getD first 0 ∈ mk)
theorem accOf_lt {found : List (List Nat)} {first : Nat} {mk : List Nat} : ∀ i ∈ accOf found first mk, i < found.length := fun i hi => List.mem_range.mp (List.mem_filter.mp hi).1
theorem accOf_len {found : List (List Nat)} {first : Nat} {mk : List Nat} : (accOf found first mk).length ≤ found.length := by
  have := List.length_filter_le (fun k => decide ((found.getD k []).getD first 0 ∈ mk)) (List.range found.length)
  rwa [List.length_range] at this
/-- a word's element acts as the word leads -/
theorem acts_lead {mv found rows : List (List Nat)} {wd first : Nat} (F : FormM mv wd) (T : Mon.Tab mv.length (cols wd mv) found rows) (h0 : found[0]? = some (Mon.idm mv.length)) (fl : first < mv.length) :
    ∀ (z : List Nat), (∀ c ∈ z, c < wd) → ∃ x, found[lead rows 0 z.reverse.reverse]? = some x ∧ x[first]? = some (lead mv first z.reverse.reverse) := by
  have g : ∀ (y : List Nat), (∀ c ∈ y, c < wd) → ∃ x, found[lead rows 0 y.reverse]? = some x ∧ x[first]? = some (lead mv first y.reverse) := by
    intro y
    induction y with
    | nil =>
      intro _
      refine ⟨_, h0, ?_⟩
      show (List.range mv.length)[first]? = some first
      exact List.getElem?_range fl
    | cons c y ih =>
      intro hy
      obtain ⟨x, hx, hf⟩ := ih fun d hd => hy d (List.mem_cons_of_mem _ hd)
      have cw := hy c List.mem_cons_self
      have hg := cols_at (mv := mv) cw
      have hn := T.get hx hg
      rw [List.reverse_cons, lead_snoc, lead_snoc]
      refine ⟨_, hn, ?_⟩
      have ll := lead_lt F (x := y.reverse) fl fun d hd => hy d (List.mem_cons_of_mem _ (List.mem_reverse.mp hd))
      obtain ⟨row, h1, h2, _⟩ := step_lt F ll cw
      show (x.map fun i => _)[first]? = _
      rw [List.getElem?_map, hf]
      show some ((mv.map fun r => r.getD c 0).getD (lead mv first y.reverse) 0) = some (step mv (lead mv first y.reverse) c)
      congr 1
      refine (Mon.getD_of ?_).trans rfl
      rw [List.getElem?_map, h1]
      show some (row.getD c 0) = some (step mv (lead mv first y.reverse) c)
      rw [Mon.getD_of h2]
  intro z hz
  exact g z.reverse fun c hc => hz c (List.mem_reverse.mp hc)
theorem acc_iff {mv found rows : List (List Nat)} {wd first : Nat} {mk : List Nat} (F : FormM mv wd) (T : Mon.Tab mv.length (cols wd mv) found rows) (h0 : found[0]? = some (Mon.idm mv.length)) (fl : first < mv.length) {z : List Nat} (hz : ∀ c ∈ z, c < wd) :
    lead rows 0 z ∈ accOf found first mk ↔ lead mv first z ∈ mk := by
  obtain ⟨x, hx, hf⟩ := acts_lead F T h0 fl z hz
  rw [List.reverse_reverse] at hx hf
  unfold accOf
  rw [List.mem_filter, List.mem_range, decide_eq_true_eq, Mon.getD_of hx, Mon.getD_of hf]
  exact ⟨fun h => h.2, fun h => ⟨(List.getElem?_eq_some_iff.mp hx).1, h⟩⟩
theorem form_of {rows : List (List Nat)} {wd : Nat} {m : List (Nat × Nat)} (A : Accept rows wd m) (w4 : wd ≤ 4) : FormM rows wd := by
  obtain ⟨f1, f2, w1, w6, fr⟩ := A.form
  exact ⟨f1, w1, w4, fr⟩
end K67

set_option Elab.async false
set_option linter.all false
set_option maxRecDepth 100000
set_option maxHeartbeats 8000000
namespace K67
open PySem PySem.Spec PyProof.Rows L2 Lf
abbrev rLst : List V → Hp → VK → Prop := fun xs H Q => ∃ cs : List Nat, xs = [.str (tx cs)] ∧ cs.length ≤ sizeLine ∧ ∀ l, H l = none → Q (.ref l) (L2.upd H l (.lst (cs.map fun c => V.str (tx [c]))))
abbrev teSign : TE := fun σ H Q => (tCons (tVar 0) (tCons (tCB rLst (tCons (tSl rSlS (tC (.str ("abcd" : Str))) tNoPart (tPart (tVar 5))) tNil)) tNil)) σ H fun vs H1 => spPick vs H1 Q E0
abbrev rGlue (K : PySem.W.Frag) : V → List V → Hp → VK → Prop := fun x us H k => ∃ (s : Str) (l : Addr) (ts : List Str),
  x = .str s ∧ us = [.ref l] ∧
  (SqL K H l (ts.map V.str) ∨ SqT K H l (ts.map V.str)) ∧ (ts.map (·.length)).sum + ts.length * s.length ≤ 16777216 ∧
  k (.str (Txt.join s ts)) H
abbrev teLong (K : PySem.W.Frag) : TE := tM1 (rGlue K) (tC (.str ("" : Str))) (tLc (iRng1 (tCons (tVar 18) tNil)) (gName 17) tYes teSign [17])
abbrev sign (c : Nat) : Str := tx [97 + c]
theorem join_ws : ∀ (x : List Nat), Txt.join ("" : Str) (x.map sign) = ws x := by
  intro x
  have g : ∀ (acc : List Nat), Txt.join ("" : Str) (acc.map fun c => tx [c]) = tx acc := by
    intro acc
    rw [TL.join_eq]
    induction acc with
    | nil => rfl
    | cons c r ih =>
      cases r with
      | nil => rfl
      | cons d r =>
        show tx [c] ++ ("" : Str) ++ Str.join "" ((d :: r).map fun c => tx [c]) = _
        rw [ih]
        show tx [c] ++ tx [] ++ tx (d :: r) = _
        rw [tx_app, tx_app]
        rfl
  have := g (x.map fun c => 97 + c)
  rw [List.map_map] at this
  exact this
/-- a long word -/
theorem word_e {K : PySem.W.Frag} {l : Addr} {n wd many : Nat} {v1 v2 v3 v4 v6 v7 v8 v9 v10 v11 v12 v13 v14 v15 v16 v17 : Option V} {H : Hp} {Q : VK} (src : Src H l n) (n1 : n + many ≤ 1000000) (m3 : many ≤ 300) (w1 : 1 ≤ wd) (w4 : wd ≤ 4)
    (fin : ∀ (x : List Nat) H', But l H H' → Src H' l (n + many) → x.length = many → (∀ c ∈ x, c < wd) → Q (.str (ws x)) H') :
    teLong K [some (.ref l), v1, v2, v3, v4, some (nv wd), v6, v7, v8, v9, v10, v11, v12, v13, v14, v15, v16, none, some (.int (many : Nat))] H Q := by
  refine ⟨⟨_, rfl⟩, _, rfl, (many : Nat), rfl, by omega, by omega, fun D nD => ?_⟩
  have Dl := src.ne nD
  refine lc_range (lo := 0) (n := many) (fun i Hc => But2 l D H Hc ∧ Src Hc l (n + i) ∧ ∃ x : List Nat, Hc D = some (.lst ((x.map sign).map V.str)) ∧ x.length = i ∧ ∀ c ∈ x, c < wd)
    ⟨But2.ofD But.upd, src.upd Dl, [], upd_same, rfl, fun z hz => by cases hz⟩ (fun i Hc hi ⟨bt, sc, x, hD, lx, ax⟩ => ?_) (fun Hc ⟨bt, sc, x, hD, lx, ax⟩ => ?_)
  · refine ⟨rfl, yesT ?_⟩
    refine ⟨_, rfl, _, rfl, (wd : Nat), rfl, ("abcd" : Str), rfl, by decide, (List.range wd).map fun c => 97 + c, by rw [cutAb w4]; rfl, by rw [List.length_map, List.length_range]; show wd ≤ 16777216; omega, fun p np => ?_⟩
    have pl := sc.ne np
    have npD : D ≠ p := fun z => by rw [← z, hD] at np; cases np
    refine ⟨l, p, n + i, _, rfl, sc.upd pl, by omega, upd_same, pl, by rw [List.length_map, List.length_map, List.length_range]; exact w1, by rw [List.length_map, List.length_map, List.length_range]; omega, fun v H' hv b' src' => ?_⟩
    obtain ⟨c, hc, rfl⟩ := List.mem_map.mp hv
    obtain ⟨d, hd, rfl⟩ := List.mem_map.mp hc
    have hD' : H' D = some (.lst ((x.map sign).map V.str)) := b' _ _ Dl (by rw [upd_ne npD]; exact hD)
    refine ⟨_, hD', by rw [List.length_map, List.length_map, lx]; show i < 16777216; omega, (bt.trans (fun b o n1 n2 e => b' _ _ n1 (by rw [upd_ne (ne_of_none e np)]; exact e))).trans (But2.ofD But.upd), src'.upd Dl, x ++ [d], by rw [upd_same]; simp, by rw [List.length_append, lx]; rfl, valid_snoc ax (List.mem_range.mp hd)⟩
  · refine ⟨_, D, x.map sign, rfl, rfl, .inl (SqL.of hD), ?_, ?_⟩
    · have : ((x.map sign).map (·.length)).sum = x.length := by
        clear ax lx hD
        induction x with
        | nil => rfl
        | cons c r ih => rw [List.map_cons, List.map_cons, List.sum_cons, ih, List.length_cons]; show 1 + _ = _; omega
      rw [this]
      show x.length + (x.map sign).length * 0 ≤ _
      omega
    · rw [join_ws]
      exact fin x Hc (bt.done nD) sc lx ax
/-- the two long words -/
theorem longs_e {K : PySem.W.Frag} {l : Addr} {n wd : Nat} {v1 v2 v3 v4 v6 v7 v8 v9 v10 : Option V} {H : Hp} {Q : VK} (src : Src H l n) (n1 : n + 330 ≤ 1000000) (w1 : 1 ≤ wd) (w4 : wd ≤ 4)
    (fin : ∀ p (a b : List Nat) H', But l H H' → Src H' l (n + 330) → H p = none → p ≠ l → H' p = some (.lst [.str (ws a), .str (ws b)]) → a.length = 30 → b.length = 300 → (∀ c ∈ a, c < wd) → (∀ c ∈ b, c < wd) → Q (.ref p) H') :
    tLc (iTup K (fun σ H Q => (tCons (tC (.int 30)) (tCons (tC (.int 300)) tNil)) σ H fun xs H1 => xs.length ≤ sizeLine ∧ ∀ p, H1 p = none → Q (.ref p) (L2.upd H1 p (.tup xs)))) (gName 18) tYes (teLong K) [18]
      [some (.ref l), v1, v2, v3, v4, some (nv wd), v6, v7, v8, v9, v10, none, none, none, none, none, none, none, none] H Q := by
  refine ⟨(by show 2 ≤ sizeLine; decide), fun tt ntt => ⟨tt, rfl, ⟨_, SqT.of upd_same⟩, fun D nD => ?_⟩⟩
  have nTl := src.ne ntt
  have s1 := same_upd (o := .tup [.int 30, .int 300]) ntt
  have src1 := src.same s1
  have htt : L2.upd H tt (.tup [.int 30, .int 300]) tt = some (.tup [.int 30, .int 300]) := upd_same
  generalize L2.upd H tt (.tup [.int 30, .int 300]) = H1 at s1 src1 htt nD ⊢
  have Dl := src1.ne nD
  have Dt : tt ≠ D := fun z => by rw [z, nD] at htt; cases htt
  refine lc_tup (K := K) (a := tt) (xs := [.int 30, .int 300]) (fun i Hc => But2 l D H1 Hc ∧ Src Hc l (n + (if i = 0 then 0 else if i = 1 then 30 else 330)) ∧ ∃ xs : List (List Nat), Hc D = some (.lst (xs.map wv)) ∧ xs.map List.length = [30, 300].take i ∧ ∀ x ∈ xs, ∀ c ∈ x, c < wd)
    ⟨But2.ofD But.upd, src1.upd Dl, [], upd_same, rfl, fun z hz => by cases hz⟩ (fun i Hc _ ⟨bt, _⟩ => SqT.of (bt _ _ nTl Dt htt)) (fun i y Hc hy ⟨bt, sc, xs, hD, lx, ax⟩ => ?_) (fun Hc ⟨bt, sc, xs, hD, lx, ax⟩ => ?_)
  · have hi : i = 0 ∨ i = 1 := by have := get_lt hy; have : i < 2 := this; omega
    obtain ⟨many, rfl, m3, e1⟩ : ∃ many : Nat, y = .int (many : Nat) ∧ many ≤ 300 ∧ (n + (if i = 0 then 0 else if i = 1 then 30 else 330)) + many = n + (if i + 1 = 0 then 0 else if i + 1 = 1 then 30 else 330) ∧ [30, 300].take (i + 1) = [30, 300].take i ++ [many] := by
      rcases hi with rfl | rfl
      · cases hy; exact ⟨30, rfl, by decide, rfl, rfl⟩
      · cases hy; exact ⟨300, rfl, by decide, rfl, rfl⟩
    obtain ⟨e1, e2⟩ := e1
    refine ⟨rfl, yesT ?_⟩
    refine word_e (K := K) (many := many) (v17 := none) sc (by rw [e1]; rcases hi with rfl | rfl <;> simp <;> omega) m3 w1 w4 fun x H' b' src' l' a' => ?_
    rw [e1] at src'
    refine ⟨_, b' _ _ Dl hD, ?_, (bt.trans (But2.ofL b')).trans (But2.ofD But.upd), src'.upd Dl, xs ++ [x], by rw [upd_same, List.map_append]; rfl, by rw [List.map_append, lx, e2, List.map_cons, l']; rfl, fun z hz => ?_⟩
    · rw [List.length_map]
      have := congrArg List.length lx
      rw [List.length_map, List.length_take] at this
      show xs.length < 16777216
      have : xs.length ≤ i := by rw [this]; exact Nat.min_le_left _ _
      omega
    · rcases List.mem_append.mp hz with h | h
      · exact ax z h
      · rw [List.mem_singleton.mp h]; exact a'
  · obtain ⟨a, b, rfl⟩ : ∃ a b, xs = [a, b] := by
      have ll : xs.length = 2 := by have := congrArg List.length lx; rw [List.length_map] at this; exact this
      match xs, ll with
      | [a, b], _ => exact ⟨a, b, rfl⟩
    have la : a.length = 30 := by have := congrArg (fun z => z.getD 0 0) lx; simpa using this
    have lb : b.length = 300 := by have := congrArg (fun z => z.getD 1 0) lx; simpa using this
    exact fin D a b Hc ((But.of s1).trans (bt.done nD)) sc (nil_of s1 nD) Dl hD la lb (ax a (by simp)) (ax b (by simp))
end K67

set_option Elab.async false
set_option linter.all false
set_option maxRecDepth 100000
set_option maxHeartbeats 8000000
namespace K67
open PySem PySem.Spec PyProof.Rows L2 Lf
/-- what is refused -/
def Odd (K : PySem.W.Frag) (H : Hp) (wd : Nat) (v : V) : Prop := ∃ o sh, TxtK K H v o ∧ (∀ z, o = some z → z.length ≤ 1000) ∧ okWd wd o = false ∧ RpE K H v sh
theorem Odd.same {K : PySem.W.Frag} {H H' : Hp} {wd : Nat} {v : V} (h : Odd K H wd v) (e : Same H H') : Odd K H' wd v := by
  obtain ⟨o, sh, a, b, c, d⟩ := h
  exact ⟨o, sh, a.same e, b, c, d.same e⟩
theorem wd_bad {wd : Nat} {cs : List Nat} {c : Nat} (h : c ∈ cs) (b : c < 97 ∨ 97 + wd ≤ c) : isWd wd cs = false := by
  unfold isWd
  have : (cs.all fun c => decide (c ∈ (List.range wd).map fun i => 97 + i)) = false := by
    refine Bool.eq_false_iff.mpr fun z => ?_
    have := of_decide_eq_true (List.all_eq_true.mp z c h)
    obtain ⟨i, hi, rfl⟩ := List.mem_map.mp this
    have := List.mem_range.mp hi
    omega
  rw [this, Bool.and_false]
theorem wd_long {wd : Nat} {cs : List Nat} (h : 300 < cs.length) : isWd wd cs = false := by
  unfold isWd
  rw [decide_eq_false (by omega)]
  rfl
theorem odd_txt {K : PySem.W.Frag} {H : Hp} {wd : Nat} {cs : List Nat} (h : ∀ c ∈ cs, c < 128) (l : cs.length ≤ 500) (w : isWd wd cs = false) : Odd K H wd (.str (tx cs)) :=
  ⟨some (tx cs), _, .str _, fun z e => by cases e; rw [tx_len]; omega, w, RpE.of (rp_txt h (by omega))⟩
abbrev aaa : List Nat := (List.replicate 301 [97]).flatten
section
variable {K : PySem.W.Frag} {H : Hp} {wd : Nat}
theorem odd_non : Odd K H wd .non := ⟨none, _, .oth (.base .non) (show kitB "NoneType" "str" = some false by decide +kernel), (fun z e => nomatch e), rfl, .of (d := .none) ⟨.non, by decide +kernel, by decide +kernel, by decide +kernel, by decide +kernel, by decide +kernel⟩⟩
theorem odd_int : Odd K H wd (.int 5) := ⟨none, _, .oth (.base (.int _)) (show kitB "int" "str" = some false by decide +kernel), (fun z e => nomatch e), rfl, .of (d := .int 5) ⟨.int _, by decide +kernel, by decide +kernel, by decide +kernel, by decide +kernel, by decide +kernel⟩⟩
theorem odd_bl : Odd K H wd (.bl true) := ⟨none, _, .oth (.base (.bl _)) (show kitB "bool" "str" = some false by decide +kernel), (fun z e => nomatch e), rfl, .of (d := .bool true) ⟨.bl _, by decide +kernel, by decide +kernel, by decide +kernel, by decide +kernel, by decide +kernel⟩⟩
theorem odd_lst {a : Addr} (ha : H a = some (.lst [.str ("a" : Str)])) : Odd K H wd (.ref a) := ⟨none, _, .oth (.base (.lst ha)) (show kitB "list" "str" = some false by decide +kernel), (fun z e => nomatch e), rfl, .of (d := .list [.str ("a" : Str)]) ⟨.lst (SqL.of ha) (.cons (.str _) .nil), by decide +kernel, by decide +kernel, by decide +kernel, by decide +kernel, by decide +kernel⟩⟩
theorem odd_tup {a : Addr} (ha : H a = some (.tup [.str ("a" : Str), .str ("b" : Str)])) : Odd K H wd (.ref a) := ⟨none, _, .oth (.base (.tup ha)) (show kitB "tuple" "str" = some false by decide +kernel), (fun z e => nomatch e), rfl, .of (d := .tuple [.str ("a" : Str), .str ("b" : Str)]) ⟨.tup (SqT.of ha) (.cons (.str _) (.cons (.str _) .nil)), by decide +kernel, by decide +kernel, by decide +kernel, by decide +kernel, by decide +kernel⟩⟩
theorem odd_dict {a : Addr} (ha : H a = some (.dK [])) : Odd K H wd (.ref a) := ⟨none, _, .oth (.base (.dK ha)) (show kitB "dict" "str" = some false by decide +kernel), (fun z e => nomatch e), rfl, .inr ⟨a, rfl, ha, rfl⟩⟩
theorem odd_sign {c : Nat} (h : c < 97 ∨ 97 + wd ≤ c) (l : c < 128) : Odd K H wd (.str (tx [c])) := odd_txt (fun d hd => by rw [List.mem_singleton.mp hd]; exact l) (by show 1 ≤ 500; decide) (wd_bad List.mem_cons_self h)
end
end K67

set_option Elab.async false
set_option linter.all false
set_option maxRecDepth 100000
set_option maxHeartbeats 4000000
/-! d.setdefault(k, z) where keys are tuples of numbers and texts. -/
namespace Lf
open PySem PySem.Spec PyProof.Rows L2
def tDSetdT (td ty tx : TE) : TE := fun σ H Q => td σ H fun x H1 => ∃ a, x = .ref a ∧ IsD H1 a ∧ ty σ H1 fun y H2 => tx σ H2 fun z H3 => ∃ (kvs : List (List Key × V)) (k : List Key) (b : Addr), H3 a = some (.dT kvs) ∧ y = .ref b ∧ H3 b = some (.tup (k.map kV)) ∧ kvs.length < sizeLine ∧
  (∀ v, valV kvs k = some v → Q v H3) ∧ (valV kvs k = none → Q z (L2.upd H3 a (.dT (putK kvs k z))))
theorem pe_dsetdT {X : Cx} {o e f : Expr} {td ty tx : TE} {apos cpos : Pos} (hu : X.A.units + 1 < cLine) (ho : PE X o td) (he : PE X e ty) (hf : PE X f tx) (m : M2 X o "setdefault" apos e f cpos) : PE X (.Call (.Attribute o "setdefault" apos) [e, f] [] cpos) (tDSetdT td ty tx) := by
  refine ⟨fun pins s σ H Q I h => ?_⟩
  refine wpAny_Call_method m.base m.few m.line PySem.F.plainAttrs_dict PySem.F.slot_dict_setdefault PySem.F.type_dict_setdefault (thn (ho.run pins s σ H _ I h) fun u s1 ⟨x, H1, I1, rx, a, ex, d, q1⟩ => ?_)
  subst ex
  obtain rfl : u = Value.ref a := rx
  obtain ⟨t1, t2, _⟩ := isD_at I1 d
  refine ⟨t1, t2, ?_⟩
  rw [m.trees]
  refine Calls.callWith_builtin rfl (Calls.evalArgs_plain (Calls.spliced_cons (thn (he.run pins s1 σ H1 _ I1 q1) fun iv s2 ⟨y, H2, I2, ry, q2⟩ =>
    Calls.spliced_cons (thn (hf.run pins s2 σ H2 _ I2 q2) fun fv s3 ⟨z, H3, I3, rz, kvs, k, b, ea, ey, eb, hl, q3, q4⟩ => Calls.spliced_nil ?_))))
  subst ey
  obtain rfl : iv = Value.ref b := ry
  obtain ⟨zz, hd, xs, rel, dd⟩ := dt_of I3.hok ea
  have hz : xs.length ≤ sizeLine := by rw [← Paired.length rel]; exact zz
  have hl2 : (putK kvs k z).length ≤ sizeLine := by have := length_putK kvs k z; omega
  refine call_setdefault_heap (hsz := hz) (knd := tupleKind (mixKind X.prog X.w)) (tupleKind_room_in1 hu) (key_of I3.hok eb) hd dd (fun p hp => ?_) fun hn h' dd' hs => ?_
  · have r := rel.val k
    rw [hp] at r
    cases hv : valV kvs k with
    | none => rw [hv] at r; cases r
    | some v =>
      rw [hv] at r
      exact ⟨v, _, I3.tok _, r, q3 v hv⟩
  · have r := rel.val k
    rw [hn] at r
    have hv : valV kvs k = none := by
      cases hv : valV kvs k with
      | none => rfl
      | some v => rw [hv] at r; cases r
    obtain ⟨q, es, ep, hq, h2, h3, h4, _, h5⟩ := dd'
    refine ⟨z, L2.upd H3 a (.dT (putK kvs k z)), d_write I3 (by rw [ea]; exact True.intro) hs ⟨q, hq⟩ ⟨hl2, hd, _, (rel.put k eb rz).keeps fun c ys ec => ?_, q, es, ep, hq, h2, h3, h4, h5⟩, rz, q4 hv⟩
    rw [upd_ne (ne_of ec ea (fun z => nomatch z))]
    exact ec
end Lf

set_option Elab.async false
set_option linter.all false
set_option maxRecDepth 100000
set_option maxHeartbeats 8000000
namespace K67
open PySem PySem.Spec PyProof.Rows L2 Lf
abbrev NR : List Str := ["_law_source_here", "_law_plan_here", "_law_moves_here", "_law_first", "_law_marked", "_law_letters", "_law_one", "_law_things", "_law_acts_here", "_law_words_so", "_law_table", "_law_long_ones", "_law_thing", "_law_word", "_law_odd", "_law_k", "_law_act", "_law_turn", "_law_many"]
def spRight : Sp := fun vs H Q _ => ∃ (l : Addr) (n : Nat), vs = [.ref l] ∧ Src H l n ∧ n + 600 ≤ 1000000 ∧ ∀ H', But l H H' → Src H' l (n + 600) → Q (.bl true) H'
abbrev ttAcc (K : PySem.W.Frag) : TT := tTest (tOp (rIn K false) (tOp (rIxT K) (tVar 16) (tVar 3)) (tVar 4))
def scLong : Scope := { kind := .function, names := [(".0", .local), ("_law_many", .local), ("range", .globalImplicit), ("_law_letters", .cell), ("_law_source_here", .cell)], isGenerator := false, isCoroutine := false }
theorem cut4 {xs : List V} (h : xs.length ≤ 4) : cutV xs none (some 4) = xs := by
  have e : HT.sIx xs.length xs.length (some ((4 : Nat) : Int)) = xs.length := by rw [HT.sIx_nat]; omega
  unfold cutV
  rw [show (4 : Int) = ((4 : Nat) : Int) from rfl, e, HT.sIx_none]
  simp
theorem SqT.butL {K : PySem.W.Frag} {H H' : Hp} {p a : Addr} {ls : List V} {xs : List V} (hp : H p = some (.lst ls)) (b : But p H H') (h : SqT K H a xs) : SqT K H' a xs := by
  rcases h with (h | ⟨o, h⟩) | h
  · exact .inl (.inl (b _ _ (fun z => by rw [z, hp] at h; cases h) h))
  · exact .inl (.inr ⟨o, b _ _ (fun z => by rw [z, hp] at h; cases h) h⟩)
  · exact .inr h
theorem RowsT.butL {K : PySem.W.Frag} {H H' : Hp} {p r : Addr} {ls : List V} {rows : List (List Nat)} (hp : H p = some (.lst ls)) (b : But p H H') (h : RowsT K H r rows) : RowsT K H' r rows := by
  obtain ⟨as, h1, h2, h3⟩ := h.ex
  exact ⟨as, SqT.butL hp b h1, h2, fun i x row g1 g2 => SqT.butL hp b (h3 i x row g1 g2)⟩
theorem MadeT.butL {K : PySem.W.Frag} {H H' : Hp} {p r : Addr} {ls : List V} {m : List (Nat × Nat)} (hp : H p = some (.lst ls)) (b : But p H H') (h : MadeT K H r m) : MadeT K H' r m := by
  obtain ⟨as, h1, h2, h3⟩ := h.ex
  exact ⟨as, SqT.butL hp b h1, h2, fun i x row g1 g2 => SqT.butL hp b (h3 i x row g1 g2)⟩
/-- a table that the constructor takes -/
theorem Mo.butL {K : PySem.W.Frag} {H H' : Hp} {x p : Addr} {ls : List V} {rows : List (List Nat)} {m : List (Nat × Nat)} (h : Mo K H x rows m) (hp : H p = some (.lst ls)) (b : But p H H') : Mo K H' x rows m := by
  obtain ⟨dy, t, u, v, a, r, q, l⟩ := h.ex
  exact ⟨dy, t, u, v, b _ _ (fun z => by rw [z, hp] at a; cases a) a, r.butL hp b, q.butL hp b, l.butL hp b⟩
theorem Thg.butL {K : PySem.W.Frag} {H H' : Hp} {x p : Addr} {ls : List V} {rows : List (List Nat)} {st : Nat} {acc : List Nat} (h : Thg K H x rows st acc) (hp : H p = some (.lst ls)) (b : But p H H') : Thg K H' x rows st acc := by
  rcases h with ⟨dx, t, u, a, r, q⟩ | ⟨e, dx, mo, u, m, a, r, q⟩
  · exact .inl ⟨dx, t, u, b _ _ (fun z => by rw [z, hp] at a; cases a) a, r.butL hp b, SqT.butL hp b q⟩
  · exact .inr ⟨e, dx, mo, u, m, b _ _ (fun z => by rw [z, hp] at a; cases a) a, r.butL hp b, SqT.butL hp b q⟩
/-- what answers as the plan does -/
def Askd (K : PySem.W.Frag) (H : Hp) (y : Addr) (mv : List (List Nat)) (wd first : Nat) (mk : List Nat) : Prop := ∃ rows st acc, Ask K H y rows wd st acc ∧ ∀ z : List Nat, (∀ c ∈ z, c < wd) → (lead rows st z ∈ acc ↔ lead mv first z ∈ mk)
theorem Askd.same {K : PySem.W.Frag} {H H' : Hp} {y : Addr} {mv : List (List Nat)} {wd first : Nat} {mk : List Nat} (h : Askd K H y mv wd first mk) (e : Same H H') : Askd K H' y mv wd first mk := by
  obtain ⟨rows, st, acc, a, b⟩ := h
  exact ⟨rows, st, acc, a.same e, b⟩
theorem Askd.butL {K : PySem.W.Frag} {H H' : Hp} {y p : Addr} {ls : List V} {mv : List (List Nat)} {wd first : Nat} {mk : List Nat} (h : Askd K H y mv wd first mk) (hp : H p = some (.lst ls)) (b : But p H H') : Askd K H' y mv wd first mk := by
  obtain ⟨rows, st, acc, a, e⟩ := h
  exact ⟨rows, st, acc, ⟨a.t.butL hp b, a.f, a.n, a.s, a.a⟩, e⟩
theorem Au.askd {K : PySem.W.Frag} {H : Hp} {x : Addr} {mv : List (List Nat)} {wd first : Nat} {mk : List Nat} (h : Au K H x mv first mk) (F : FormM mv wd) (n : mv.length ≤ 500) (s : first < mv.length) (a : ∀ i ∈ mk, i < mv.length) : Askd K H x mv wd first mk :=
  ⟨mv, first, mk, ⟨.inl h, F, n, s, a⟩, fun z _ => Iff.rfl⟩
theorem La.askd {K : PySem.W.Frag} {H : Hp} {x : Addr} {mv found rows : List (List Nat)} {wd first : Nat} {mk : List Nat} {m : List (Nat × Nat)} (h : La K H x rows (accOf found first mk)) (F : FormM mv wd) (T : Mon.Tab mv.length (cols wd mv) found rows) (ac : Accept rows wd m) (n : rows.length ≤ 500) (s : first < mv.length) : Askd K H x mv wd first mk := by
  have FR := form_of ac F.2.2.1
  refine ⟨rows, 0, accOf found first mk, ⟨.inr ⟨rfl, h⟩, FR, n, FR.1, fun i hi => ?_⟩, fun z hz => acc_iff F T T.head s hz⟩
  rw [T.len]
  exact accOf_lt i hi
theorem inV_mk {v : Nat} {mk : List Nat} : inV (nv v) (mk.map nv) = decide (v ∈ mk) := by
  unfold inV
  rw [List.any_map]
  by_cases h : v ∈ mk
  · rw [decide_eq_true h]
    exact List.any_eq_true.mpr ⟨_, h, by show decide (_ = _) = true; simp⟩
  · rw [decide_eq_false h]
    refine Bool.eq_false_iff.mpr fun z => h ?_
    obtain ⟨y, hy, e⟩ := List.any_eq_true.mp z
    have : ((y : Nat) : Int) = ((v : Nat) : Int) := of_decide_eq_true e
    rw [← show y = v by omega]
    exact hy
/-- Automaton(moves, first, marked) -/
theorem mkA {K : PySem.W.Frag} {H : Hp} {x dx r pm : Addr} {mv : List (List Nat)} {wd first : Nat} {mk : List Nat} {W : Hp → Prop} (R : RowsL K H r mv) (FM : FormM mv wd) (m9 : mv.length ≤ 9) (fl : first < mv.length) (hk : H pm = some (.lst (mk.map nv))) (kb : ∀ i ∈ mk, i < mv.length) (k9 : mk.length ≤ 9)
    (nx : H x = none) (ndx : H dx = none) (xdx : dx ≠ x) (k : ∀ H3, Au K H3 x mv first mk → Same H H3 → W H3) :
    spAut K [.ref x, .ref r, nv first, .ref pm] (L2.upd (L2.upd H dx (.own x)) x (.ins (He.ga K "Automaton") dx [])) (fun v H2 => v = .non ∧ W H2) E0 := by
  have u1 := same_upd (o := .own x) ndx
  have nx1 : L2.upd H dx (.own x) x = none := by rw [upd_ne (Ne.symm xdx)]; exact nx
  have u2 := u1.trans (same_upd (o := .ins (He.ga K "Automaton") dx []) nx1)
  refine ⟨x, dx, r, pm, mv, wd, first, mk, rfl, upd_same, R.same u2, FM, m9, fl, u2 _ _ hk, kb, k9, fun H3 b3 au => ⟨rfl, k H3 au fun b o e => b3 _ _ (ne_of_none e nx) (u2 _ _ e)⟩⟩
/-- Monoid(rows) -/
theorem mkM {K : PySem.W.Frag} {H : Hp} {r x dx : Addr} {rows : List (List Nat)} {wd : Nat} {m : List (Nat × Nat)} {W : Hp → Prop} (R : RowsL K H r rows) (ac : Accept rows wd m) (nx : H x = none) (ndx : H dx = none) (xdx : dx ≠ x) (k : ∀ H3, Mo K H3 x rows m → Same H H3 → W H3) :
    spMon K [.ref x, .ref r] (L2.upd (L2.upd H dx (.own x)) x (.ins (He.ga K "Monoid") dx [])) (fun v H2 => v = .non ∧ W H2) E0 := by
  have u1 := same_upd (o := .own x) ndx
  have nx1 : L2.upd H dx (.own x) x = none := by rw [upd_ne (Ne.symm xdx)]; exact nx
  have u2 := u1.trans (same_upd (o := .ins (He.ga K "Monoid") dx []) nx1)
  exact ⟨x, r, dx, rows, wd, m, rfl, upd_same, R.same u2, ac, fun H3 b3 mo => ⟨rfl, k H3 mo fun b o e => b3 _ _ (ne_of_none e nx) (u2 _ _ e)⟩⟩
/-- Language(monoid, marked) -/
theorem mkL {K : PySem.W.Frag} {H : Hp} {x dx mo pm : Addr} {rows : List (List Nat)} {m : List (Nat × Nat)} {wd : Nat} {mk : List Nat} {W : Hp → Prop} (M : Mo K H mo rows m) (FM : FormM rows wd) (m5 : rows.length ≤ 500) (hk : H pm = some (.lst (mk.map nv))) (kb : ∀ i ∈ mk, i < rows.length) (k5 : mk.length ≤ 500)
    (nx : H x = none) (ndx : H dx = none) (xdx : dx ≠ x) (k : ∀ H3, La K H3 x rows mk → Same H H3 → W H3) :
    spLan K [.ref x, .ref mo, .ref pm] (L2.upd (L2.upd H dx (.own x)) x (.ins (He.ga K "Language") dx [])) (fun v H2 => v = .non ∧ W H2) E0 := by
  have u1 := same_upd (o := .own x) ndx
  have nx1 : L2.upd H dx (.own x) x = none := by rw [upd_ne (Ne.symm xdx)]; exact nx
  have u2 := u1.trans (same_upd (o := .ins (He.ga K "Language") dx []) nx1)
  exact ⟨x, dx, mo, pm, rows, m, wd, mk, rfl, upd_same, M.same u2, FM, m5, u2 _ _ hk, kb, k5, fun H3 b3 la => ⟨rfl, k H3 la fun b o e => b3 _ _ (ne_of_none e nx) (u2 _ _ e)⟩⟩
section
variable {P : Program} {w : World} {K : PySem.W.Frag} {mg : Str → Option Value} {base : Heap}
theorem scRight : FnScope NR ["_law_source_here"] (defScope s_L_right) := ⟨rfl, rfl, rfl, by decide +kernel, rfl, by decide +kernel, by decide +kernel⟩
theorem ok_right {f : Addr} {fd : FuncData} {q : Str} (F : FunD K "_law_right" q (defArgs s_L_right) (defBody s_L_right) (defScope s_L_right) [] [] f fd) (T : Txt P w K mg base)
    (DN : Def P w K mg base CX0 4 "_law_plan" ["_law_source_here", "_law_most"] spPlan) (DP : Def P w K mg base CX0 2 "_law_pick" ["_law_source_here", "_law_some"] spPick)
    (DC : Def P w K mg base CX0 1 "_law_acts" ["_law_moves_here"] spActs) (DA : Def P w K mg base CX0 1 "_law_all_words" ["_law_letters", "_law_most"] spAll)
    (DH : Def P w K mg base CX0 2 "_law_has" ["_law_plan_here", "_law_word"] spHas) (DF : DefG P w K mg base CX0 4 "_law_refused" ["_law_thing", "_law_word"] (spRef K))
    {fm : Addr} {fdm : FuncData} (mM : Mk K (He.ga K "Monoid") fm) (FM : FnOk P w K mg base CX0 4 fm fdm ["self", "right"] (spMon K)) (bM : Binds K fdm ["self", "right"] [])
    {fa : Addr} {fda : FuncData} (mA : Mk K (He.ga K "Automaton") fa) (FA : FnOk P w K mg base CX0 5 fa fda ["self", "rows", "start", "accepted"] (spAut K)) (bA : Binds K fda ["self", "rows", "start", "accepted"] [])
    {fl : Addr} {fdl : FuncData} (mL : Mk K (He.ga K "Language") fl) (FL : FnOk P w K mg base CX0 5 fl fdl ["self", "monoid", "accepted"] (spLan K)) (bL : Binds K fdl ["self", "monoid", "accepted"] [])
    {fe : Addr} {fde : FuncData} (mE : Meth K (He.ga K "Automaton") "__eq__" fe) (FE : FnOk P w K mg base CX0 1 fe fde ["self", "other"] (spEqA K)) (bE : Binds K fde ["self", "other"] [])
    {fs : Addr} {fds : FuncData} (gs : mg "accepts" = some (.ref fs)) (ks : PySem.W.keepIn K (.ref fs) = true) (FS : FnOk P w K mg base (L2.CX P w) 3 fs fds ["thing", "word"] (spAcc K)) (bS : Binds K fds ["thing", "word"] []) :
    FnG P w K mg base CX0 7 f fd ["_law_source_here"] spRight := by
  have zn : mg "len" = none := T.fr 52 "len" rfl
  have zl : mg "list" = none := T.fr 53 "list" rfl
  have zr : mg "range" = none := T.fr 55 "range" rfl
  have zR : mg "repr" = none := T.fr 56 "repr" rfl
  have zE : mg "enumerate" = none := T.fr 49 "enumerate" rfl
  have oe : OwnEq K (He.ga K "Automaton") fe := (T.ops (x := "Automaton") (by decide)).eq mE
  refine okG F scRight (fun vs H Q E h => ?_) (fun cdv A outer s H vs Q E hgd hr h => ?_)
  · obtain ⟨l, n, rfl, _⟩ := h
    rfl
  · obtain ⟨l, n, rfl, src, n1, fin⟩ := h
    have R1 : Room 1 _ := hr.mono (by decide)
    have R2 : Room 2 _ := hr.mono (by decide)
    have R3 : Room 3 _ := hr.mono (by decide)
    have R4 : Room 4 _ := hr.mono (by decide)
    have R5 : Room 5 _ := hr.mono (by decide)
    have hu : (A.deeper (envOfC q (defScope s_L_right) s.heap.objs.size f cdv)).units + 64 < cLine := hr.units
    have hu9 : (A.deeper (envOfC q (defScope s_L_right) s.heap.objs.size f cdv)).units + 9 < cLine := by omega
    refine ⟨_, PSs.nox (pss_cons (ps_set (i := 1) scRight.nd rfl (.inl rfl) (pe_def DN R4 pass0 rfl (pa_cons (pv 0) (pa_cons pe_int pa_nil))))
      (pss_cons (ps_asg (pv 1) (pg_tup rfl (pgs_cons (pg_name (i := 2) scRight.nd rfl (.inl rfl)) (pgs_cons (pg_name (i := 3) scRight.nd rfl (.inr rfl)) (pgs_cons (pg_name (i := 4) scRight.nd rfl (.inr rfl)) pgs_nil)))))
      (pss_cons (ps_set (i := 5) scRight.nd rfl (.inr rfl) (pe_callB call_len_seq rfl zn boot_len (pa_cons (pe_ix ix_list (pv 2) pe_int (fun _ _ => rfl)) pa_nil)))
      (pss_cons (ps_par (i := 6) (j := 7) rfl scRight.nd rfl rfl (by decide) rfl rfl (pa_cons (pe_make mA FA hr rfl (T.gl 8 "Automaton" rfl) bA .nil pass0 (pa_cons (pv 2) (pa_cons (pv 3) (pa_cons (pv 4) pa_nil)))) (pa_cons (pe_lst pa_nil) pa_nil)) (by rfl))
      (pss_cons (ps_asg (pe_ifExp (pt_cmpR op_lt (pe_callB call_len_seq rfl zn boot_len (pa_cons (pv 2) pa_nil)) pe_int (nomark _)) (pe_def DC R1 pass0 rfl (pa_cons (pe_slice sl_list (pv 2) po_none (po_some pe_int)) pa_nil)) (pe_tup (pa_cons (pe_lst pa_nil) (pa_cons (pe_lst pa_nil) (pa_cons (pe_lst pa_nil) pa_nil)))))
        (pg_tup rfl (pgs_cons (pg_name (i := 8) scRight.nd rfl (.inl rfl)) (pgs_cons (pg_name (i := 9) scRight.nd rfl (.inl rfl)) (pgs_cons (pg_name (i := 10) scRight.nd rfl (.inl rfl)) pgs_nil)))))
      (pss_cons (ps_expr (pe_bm PySem.F.plainAttrs_list PySem.F.slot_list_append PySem.F.type_list_append mt_append (pv 7) (pa_cons (pv 6) pa_nil)))
      (pss_cons (ps_if (PW.pt (pw_and (pt_cmpR (op_neD hu) (pv 8) (pe_lst pa_nil) (nomark _)) (pw_and1 (pt_cmpR op_le (pe_callB call_len_seq rfl zn boot_len (pa_cons (pv 8) pa_nil)) pe_int (nomark _)))))
        (pss_one (ps_expr (pe_bm PySem.F.plainAttrs_list PySem.F.slot_list_append PySem.F.type_list_append mt_append (pv 7) (pa_cons (pe_make mL FL hr rfl (T.gl 9 "Language" rfl) bL .nil pass0 (pa_cons (pe_make mM FM R5 rfl (T.gl 7 "Monoid" rfl) bM .nil pass0 (pa_cons (pv 10) pa_nil))
          (pa_cons (pe_lc (own := [("_law_k", 15), ("_law_act", 16)]) (g := gTup K 2 (gCons (gName 15) (gCons (gName 16) gNil))) (tt := ttAcc K) (te := tVar 15) (by rfl) scRight.nd (pi_enumA rfl zE (pv 8)) (blkOk_by (own := [("_law_k", 15), ("_law_act", 16)]) (N := NR) (sc := defScope s_L_right) (by decide +kernel)) (fun _ _ _ _ _ => by exact pg_tup rfl (pgs_cons (pg_name (i := 15) scRight.nd rfl (Or.inl rfl)) (pgs_cons (pg_name (i := 16) scRight.nd rfl (Or.inl rfl)) pgs_nil)))
            (fun _ _ _ _ _ => by exact pts_one (pt_cmpR op_in_seq (pe_ix ix_tup (pv 16) (pv 3) (fun _ _ => rfl)) (pv 4) (by rfl))) (fun _ _ _ _ _ => pv 15)) pa_nil))) pa_nil)))) pss_nil)
      (pss_cons (ps_setLc (i := 11) (own := [("_law_many", 18)]) (g := gName 18) (te := teLong K) rfl scRight.nd rfl rfl (by rfl) (pi_tup (pe_tup (pa_cons pe_int (pa_cons pe_int pa_nil)))) (blkOk_by (own := [("_law_many", 18)]) (N := NR) (sc := defScope s_L_right) (by decide +kernel)) (fun _ _ _ _ _ => pg_name (i := 18) scRight.nd rfl (Or.inl rfl)) (fun _ _ _ _ _ => pts_nil)
        (fun _ _ _ _ _ => by
          exact pe_join pe_str (pe_lc (own := [("_law_turn", 17)]) (g := gName 17) (te := teSign) (by rfl) scRight.nd (pi_range1 rfl zr (pa_cons (pv 18) pa_nil)) (blkOk_by (own := [("_law_turn", 17)]) (N := NR) (sc := scLong) (by decide +kernel)) (fun _ _ _ _ _ => pg_name (i := 17) scRight.nd rfl (Or.inl rfl)) (fun _ _ _ _ _ => pts_nil)
            (fun _ _ _ _ _ => pe_def DP R2 pass0 rfl (pa_cons (pv 0) (pa_cons (pe_callTy (call_listStr rfl) rfl zl boot_list (pa_cons (pe_slice sl_str pe_str po_none (po_some (pv 5))) pa_nil)) pa_nil))))))
      (pss_cons (ps_for PassesOwn.never rfl (pi_list (pv 7)) (pg_name (i := 12) scRight.nd rfl (.inl rfl))
        (pss_cons (ps_for PassesOwn.never rfl (pi_list (pe_op op_catL (pe_def DA R1 pass0 rfl (pa_cons (pv 5) (pa_cons (pe_ix ix_list (pe_lst (pa_cons pe_int (pa_cons pe_int (pa_cons pe_int (pa_cons pe_int (pa_cons pe_int pa_nil)))))) (pv 5) (fun _ _ => rfl)) pa_nil))) (pv 11))) (pg_name (i := 13) scRight.nd rfl (.inl rfl))
          (pss_one (ps_if (pt_cmpR op_ne (pe_callB (call_reprD (by exact hgd) (by exact hu9)) rfl zR boot_repr (pa_cons (pe_callS FS R3 rfl gs ks bS (fun σ => passAt LamX.takes0 σ) (pa_cons (pv 12) (pa_cons (pv 13) pa_nil))) pa_nil))
            (pe_callB (call_reprD (by exact hgd) (by exact hu9)) rfl zR boot_repr (pa_cons (pe_def DH R2 pass0 rfl (pa_cons (pv 1) (pa_cons (pv 13) pa_nil))) pa_nil)) (nomark _)) (pss_one (ps_ret pe_bl)) pss_nil)))
        (pss_cons (ps_set (i := 14) scRight.nd rfl (.inl rfl) (pe_lst (pa_cons (pe_ix ix_str pe_str (pv 5) (fun _ _ => rfl)) (pa_cons (pe_op op_add_str (pe_op op_add_str pe_str (pe_ix ix_str pe_str (pv 5) (fun _ _ => rfl))) pe_str) (pa_cons pe_str (pa_cons pe_str (pa_cons pe_str (pa_cons pe_non (pa_cons pe_int (pa_cons pe_bl (pa_cons (pe_lst (pa_cons pe_str pa_nil)) (pa_cons (pe_tup (pa_cons pe_str (pa_cons pe_str pa_nil))) (pa_cons pe_dnewK pa_nil)))))))))))))
        (pss_one (ps_for PassesOwn.never rfl (pi_list (pe_op op_catL (pv 14) (pe_lst (pa_cons (pe_op op_mul_str pe_str pe_int) (pa_cons (pe_op op_add_str (pe_ix ix_list (pv 11) pe_int (fun _ _ => rfl)) pe_str) (pa_cons pe_str (pa_cons pe_str (pa_cons pe_str pa_nil)))))))) (pg_name (i := 13) scRight.nd rfl (.inl rfl))
          (pss_one (ps_if (pt_not (pt_val (pe_defG DF hgd R4 pass0 rfl (pa_cons (pv 12) (pa_cons (pv 13) pa_nil))))) (pss_one (ps_ret pe_bl)) pss_nil)))))))
      (pss_one (ps_ret (pe_cmpR (op_ownEq oe FE R1 bE pass0) (pv 6) (pe_make mA FA hr rfl (T.gl 8 "Automaton" rfl) bA .nil pass0 (pa_cons (pv 2) (pa_cons (pv 3) (pa_cons (pv 4) pa_nil)))) (nomark _))))))))))))), ?fin⟩
    refine ⟨_, rfl, l, n, rfl, src, by omega, fun T' r pm mv wd first mk H1 b1 nT PL src1 => ?_⟩
    obtain ⟨nrl, as, hr0, la, ra⟩ := PL.m.ex
    obtain ⟨f1, f2, f3, f4⟩ := id PL.f
    obtain ⟨a0, ha0⟩ := lt_get (show 0 < as.length by omega)
    obtain ⟨row0, hrow0⟩ := lt_get (show 0 < mv.length by omega)
    have lw0 := (f4 row0 (List.mem_of_getElem? hrow0)).1
    refine ⟨_, rfl, T', _, rfl, SqT.of PL.t.2, rfl, _, _, rfl, _, _, rfl, _, _, rfl, rfl, ?_⟩
    refine ⟨_, rfl, r, as.map V.ref, 0, .ref a0, rfl, rfl, SqL.of hr0, atI_nat (j := 0) (get_map ha0), a0, row0.map nv, rfl, .inl (SqL.of (ra 0 a0 row0 ha0 hrow0).2), ?_⟩
    rw [List.length_map, lw0]
    have len9 := PL.d
    refine ⟨_, rfl, _, rfl, _, rfl, fun x dx nx ndx xdx => mkA (wd := wd) PL.m.rl PL.f PL.d PL.a PL.k.2 PL.b PL.c nx ndx xdx fun H2 au s2 => ⟨(by show 0 ≤ sizeLine; decide), fun pt npt => ⟨_, _, rfl, ?_⟩⟩⟩
    have s3 := s2.trans (same_upd (o := .lst []) npt)
    have ht3 : L2.upd H2 pt (.lst []) pt = some (.lst []) := upd_same
    have au3 := au.same (same_upd (o := .lst []) npt)
    generalize L2.upd H2 pt (.lst []) = H3 at s3 ht3 au3 ⊢
    have PL3 := PL.same s3
    have npt1 : H1 pt = none := nil_of s2 npt
    dsimp only
    try delta tNext
    refine seq_join (fun σ' H' => ∃ pf pw pb : Addr, σ' = [some (.ref l), some (.ref T'), some (.ref r), some (nv first), some (.ref pm), some (nv wd), some (.ref x), some (.ref pt), some (.ref pf), some (.ref pw), some (.ref pb), none, none, none, none, none, none, none, none] ∧ Same H3 H' ∧
      (H' pf = some (.lst []) ∨ ∃ pn as bs found rows m, Lay H' pf pw pb pn as bs found (Mon.wordTab m) rows ∧ Mon.Tab mv.length (cols wd mv) found rows ∧ Mon.madeTab 0 rows [] = some m ∧ m.length + 1 = rows.length ∧ mv.length ≤ 4 ∧ ∀ b ∈ bs, b ≠ pt) ∧ pf ≠ pt ∧ pw ≠ pt ∧ pb ≠ pt) ?tail ?two
    case two =>
      intro nx hnx
      refine ⟨_, rfl, r, as.map V.ref, rfl, .inl (SqL.of (s3 _ _ hr0)), _, _, rfl, rfl, _, rfl, ?_⟩
      rw [List.length_map, la]
      refine ite2 (fun h5 => ?_) (fun _ => ?_)
      · have m4 : mv.length ≤ 4 := by have := of_decide_eq_true h5; omega
        have src3 := src1.same s3
        have hr3 := s3 _ _ hr0
        refine ⟨_, rfl, 4, rfl, r, as.map V.ref, rfl, SqL.of hr3, fun q nq => ?_⟩
        rw [cut4 (by rw [List.length_map, la]; exact m4)]
        have sq := same_upd (o := .lst (as.map V.ref)) nq
        have nql := src3.ne nq
        refine ⟨l, q, mv, wd, rfl, ⟨nql, as, upd_same, la, fun i a row g1 g2 => ⟨(ra i a row g1 g2).1, sq _ _ (s3 _ _ (ra i a row g1 g2).2)⟩⟩, PL.f, m4, fun T2 pf pw pb pn as2 bs found rows m H5 s5 nT2 hT2 L5 Tb hm lm fr => ?_⟩
        have hq := sq _ _ ht3
        refine ⟨T2, _, rfl, SqT.of hT2, rfl, _, _, rfl, _, _, rfl, _, _, rfl, rfl, hnx _ _ ⟨pf, pw, pb, rfl, sq.trans s5, .inr ⟨pn, as2, bs, found, rows, m, L5, Tb, hm, lm, m4, fun b hb z => ?_⟩, fun z => ?_, fun z => ?_, fun z => ?_⟩⟩
        · have := fr.2.2.2 b hb
          rw [z, hq] at this
          cases this
        · rw [z, hq] at fr
          exact nomatch fr.1
        · rw [z, hq] at fr
          exact nomatch fr.2.1
        · rw [z, hq] at fr
          exact nomatch fr.2.2.1
      · refine ⟨(by show 0 ≤ sizeLine; decide), fun pf nf => ⟨(by show 0 ≤ sizeLine; decide), fun pw nw => ⟨(by show 0 ≤ sizeLine; decide), fun pb nb => ⟨(by show 3 ≤ sizeLine; decide), fun T2 nT2 => ?_⟩⟩⟩⟩
        have t1 := same_upd (o := .lst []) nf
        have t2 := same_upd (o := .lst []) nw
        have t3 := same_upd (o := .lst []) nb
        have t4 := same_upd (o := .tup [.ref pf, .ref pw, .ref pb]) nT2
        refine ⟨T2, _, rfl, SqT.of upd_same, rfl, _, _, rfl, _, _, rfl, _, _, rfl, rfl, hnx _ _ ⟨pf, pw, pb, rfl, ((t1.trans t2).trans t3).trans t4, .inl (t4 _ _ (t3 _ _ (t2 _ _ upd_same))), fun z => ?_, fun z => ?_, fun z => ?_⟩⟩
        · rw [z, ht3] at nf
          cases nf
        · rw [z, t1 _ _ ht3] at nw
          cases nw
        · rw [z, t2 _ _ (t1 _ _ ht3)] at nb
          cases nb
    case tail =>
      rintro σ' H4 ⟨pf, pw, pb, rfl, s4, ACT, n1, n2, n3⟩
      have ht4 := s4 _ _ ht3
      refine ⟨_, rfl, .inl ⟨rfl, _, SqL.of ht4⟩, _, rfl, pt, [], _, rfl, rfl, ht4, (by decide), ?_⟩
      have ask5 : Askd K (L2.upd H4 pt (.lst ([] ++ [.ref x]))) x mv wd first mk := ((au3.same s4).askd PL.f (by omega) PL.a PL.b).butL ht4 But.upd
      have s5 : Same H1 (L2.upd H4 pt (.lst ([] ++ [.ref x]))) := fun b o e => by
        rw [upd_ne (ne_of_none e npt1)]
        exact s4 _ _ (s3 b o e)
      have au5 : Au K (L2.upd H4 pt (.lst ([] ++ [.ref x]))) x mv first mk := by
        obtain ⟨dx', t, u, a, r', q'⟩ := au3.same s4
        exact ⟨dx', t, u, by rw [upd_ne (fun z => by rw [z, ht4] at a; cases a)]; exact a, r'.butL ht4 But.upd, SqT.butL ht4 But.upd q'⟩
      have ht5 : L2.upd H4 pt (.lst ([] ++ [.ref x])) pt = some (.lst ([x].map V.ref)) := upd_same
      have ACT5 : L2.upd H4 pt (.lst ([] ++ [.ref x])) pf = some (.lst []) ∨ ∃ pn as bs found rows m, Lay (L2.upd H4 pt (.lst ([] ++ [.ref x]))) pf pw pb pn as bs found (Mon.wordTab m) rows ∧ Mon.Tab mv.length (cols wd mv) found rows ∧ Mon.madeTab 0 rows [] = some m ∧ m.length + 1 = rows.length ∧ mv.length ≤ 4 := by
        rcases ACT with z | ⟨pn, as2, bs, found, rows, m, L5, Tb, hm, lm, m4, nb⟩
        · exact .inl (by rw [upd_ne n1]; exact z)
        · exact .inr ⟨pn, as2, bs, found, rows, m, L5.off ht4 ⟨n1.symm, n2.symm, n3.symm⟩ (fun z => nb pt z rfl), Tb, hm, lm, m4⟩
      generalize L2.upd H4 pt (.lst ([] ++ [.ref x])) = H5 at ask5 s5 au5 ht5 ACT5 ⊢
      clear ACT s4 ht4 au3 au
      dsimp only
      refine seq_join (fun σ' H' => ∃ ys : List Addr, σ' = [some (.ref l), some (.ref T'), some (.ref r), some (nv first), some (.ref pm), some (nv wd), some (.ref x), some (.ref pt), some (.ref pf), some (.ref pw), some (.ref pb), none, none, none, none, none, none, none, none] ∧ Same H1 H' ∧ Au K H' x mv first mk ∧ H' pt = some (.lst (ys.map V.ref)) ∧ ys.length ≤ 2 ∧ ∀ y ∈ ys, Askd K H' y mv wd first mk) ?tail2 ?two2
      case two2 =>
        intro nx hnx
        refine ⟨_, rfl, (by show 0 ≤ sizeLine; decide), fun q nq => ?_⟩
        have sq := same_upd (o := .lst []) nq
        have hq : L2.upd H5 q (.lst []) q = some (.lst (([] : List Addr).map V.ref)) := upd_same
        have s6 := s5.trans sq
        have au6 := au5.same sq
        have ht6 := sq _ _ ht5
        have ask6 := ask5.same sq
        rcases ACT5 with hz | ⟨pn, as2, bs, found, rows, m, L5, Tb, hm, lm, m4⟩
        · have hz6 := sq _ _ hz
          generalize L2.upd H5 q (.lst []) = H6 at sq hq s6 au6 ht6 ask6 hz6 ⊢
          refine ne_dI (.lst (SqL.of hz6) .nil) (.lst (SqL.of hq) .nil) (rows_sh []) ⟨_, rfl, ifF rfl ?_⟩
          exact hnx _ _ ⟨[x], rfl, s6, au6, ht6, (by show 1 ≤ 2; decide), fun y hy => by rw [List.mem_singleton.mp hy]; exact ask6⟩
        · have L6 := L5.same sq
          generalize L2.upd H5 q (.lst []) = H6 at sq hq s6 au6 ht6 ask6 L6 ⊢
          have ne0 : PyData.eqv (.list (found.map dI)) (.list []) = false := by
            cases found with
            | nil => have := Tb.head; simp at this
            | cons a r => simp [PyData.eqv, PyData.eqvAll]
          refine ⟨.list (found.map dI), .list [], .lst (SqL.of L6.f) (dpR L6.fl fun j a x h1 h2 => SqT.of (L6.fe j a x h1 h2)), .lst (SqL.of hq) .nil, rows_sh found, rows_sh [], ?_⟩
          rw [ne0]
          refine ⟨_, rfl, ifT rfl ?_⟩
          have few : found.length ≤ 256 := by
            have g1 := Mon.maps_few Tb.nd Tb.val
            have g2 : ∀ k, 1 ≤ k → k ≤ 4 → k ^ k ≤ 256 := by
              intro k k1 k4
              have : k = 1 ∨ k = 2 ∨ k = 3 ∨ k = 4 := by omega
              rcases this with rfl | rfl | rfl | rfl <;> decide
            exact Nat.le_trans g1 (g2 _ f1 m4)
          have lr : rows.length = found.length := Tb.len
          have gl : (cols wd mv).length = wd := cols_len
          have ac : Accept rows wd m := by
            have := accept_of Tb (List.ne_nil_of_length_pos (by rw [gl]; omega)) (by rw [gl]; omega) (by omega) hm lm
            rwa [gl] at this
          have RB : RowsL K H6 pb rows := ⟨bs, SqL.of L6.t, L6.tl, fun j b r h1 h2 => SqL.of (L6.te j b r h1 h2)⟩
          refine ⟨_, rfl, pf, as2.map V.ref, rfl, .inl (SqL.of L6.f), _, _, rfl, rfl, _, rfl, ?_⟩
          rw [List.length_map, L6.fl]
          refine ifT (decide_eq_true (by omega)) ?_
          refine ⟨_, rfl, .inl ⟨rfl, _, SqL.of ht6⟩, _, rfl, fun xm dm nxm ndm nem => mkM RB ac nxm ndm nem fun H7 M7 s7 => ?_⟩
          have hk7 : H7 pm = some (.lst (mk.map nv)) := s7 _ _ (s6 _ _ PL.k.2)
          refine ⟨_, rfl, pf, as2.map V.ref, rfl, .inl ⟨SqL.of (s7 _ _ L6.f), fun D nD => ?_⟩⟩
          refine lc_it (walk_enumL (K := K) (a := pf) (xs := as2.map V.ref)) (fun i Hd => But D H7 Hd ∧ Hd D = some (.lst (((List.range i).filter fun k => decide ((found.getD k []).getD first 0 ∈ mk)).map nv))) ⟨But.upd, upd_same⟩ (fun i Hd _ ⟨bd, _⟩ => SqL.of (Same.but (L2.Same.refl _) nD bd _ _ (s7 _ _ L6.f))) (fun i y Hd H' hi ⟨bd, hD⟩ yl => ?_) (fun Hd ⟨bd, hD⟩ => ?_)
          · obtain ⟨T2, z, rfl, nT2, rfl, hz⟩ := yl
            obtain ⟨a, ha, rfl⟩ := map_get hz
            have il : i < found.length := by rw [← L6.fl]; exact get_lt ha
            obtain ⟨xx, hxx⟩ := lt_get il
            have vx := Tb.val xx (List.mem_of_getElem? hxx)
            obtain ⟨e, he⟩ := lt_get (show first < xx.length by rw [vx.1]; exact PL.a)
            have sd := Same.but (L2.Same.refl _) nD bd
            have sT := same_upd (o := .tup [.int (i : Nat), .ref a]) nT2
            have nTD : D ≠ T2 := fun z => by rw [z, nT2] at hD; cases hD
            refine ⟨T2, _, rfl, SqT.of upd_same, rfl, _, _, rfl, _, _, rfl, rfl, rfl, ?_⟩
            refine ⟨_, rfl, _, rfl, a, xx.map nv, _, nv e, rfl, rfl, SqT.of (sT _ _ (sd _ _ (s7 _ _ (L6.fe i a xx ha hxx)))), atI_nat (get_map he), _, rfl, pm, mk.map nv, rfl, .inl (SqL.of (sT _ _ (sd _ _ hk7))), rfl, by rw [List.all_map]; exact List.all_eq_true.mpr fun _ _ => rfl, ?_⟩
            rw [if_neg Bool.false_ne_true, inV_mk]
            refine ⟨_, rfl, ?_⟩
            have ee : (found.getD i []).getD first 0 = e := by rw [Mon.getD_of hxx, Mon.getD_of he]
            have hD' : L2.upd Hd T2 (.tup [.int (i : Nat), .ref a]) D = some (.lst (((List.range i).filter fun k => decide ((found.getD k []).getD first 0 ∈ mk)).map nv)) := by rw [upd_ne nTD]; exact hD
            refine ite2 (fun c => ?_) (fun c => ?_)
            · refine ⟨_, rfl, _, hD', ?_, (bd.trans (But.of sT)).trans But.upd, ?_⟩
              · rw [List.length_map]
                have := List.length_filter_le (fun k => decide ((found.getD k []).getD first 0 ∈ mk)) (List.range i)
                rw [List.length_range] at this
                show _ < 16777216
                omega
              · rw [upd_same, List.range_succ, List.filter_append, List.filter_cons, List.filter_nil, ee, if_pos c, List.map_append]
                rfl
            · refine ⟨bd.trans (But.of sT), ?_⟩
              rw [hD', List.range_succ, List.filter_append, List.filter_cons, List.filter_nil, ee, if_neg c, List.append_nil]
          · rw [List.length_map, L6.fl] at hD
            have sd := Same.but (L2.Same.refl _) nD bd
            have M8 := M7.same sd
            refine fun xl dl nxl ndl nel => mkL M8 (form_of ac f3) (by omega) (mk := accOf found first mk) hD (fun i hi => by rw [lr]; exact accOf_lt i hi) (Nat.le_trans accOf_len (by omega)) nxl ndl nel fun H9 La9 s9 => ?_
            have s69 := (s7.trans sd).trans s9
            have ht9 := s69 _ _ ht6
            have La10 : Askd K H9 xl mv wd first mk := La9.askd PL.f Tb ac (by omega) PL.a
            refine ⟨pt, [x].map V.ref, _, rfl, rfl, ht9, (by show 1 < 16777216; decide), hnx _ _ ⟨[x, xl], rfl, fun b o e => ?_, ?_, upd_same, Nat.le_refl 2, fun y hy => ?_⟩⟩
            · rw [upd_ne (ne_of_none e npt1)]
              exact s69 _ _ (s6 b o e)
            · obtain ⟨dx', t, u, a, r', q'⟩ := au6.same s69
              exact ⟨dx', t, u, by rw [upd_ne (fun z => by rw [z, ht9] at a; cases a)]; exact a, r'.butL ht9 But.upd, SqT.butL ht9 But.upd q'⟩
            · rcases List.mem_cons.mp hy with rfl | hy
              · exact (ask6.same s69).butL ht9 But.upd
              · rw [List.mem_singleton.mp hy]
                exact La10.butL ht9 But.upd
      case tail2 =>
        rintro σ' H6 ⟨ys, rfl, s6, au6, ht6, ly, ay⟩
        have src6 := src1.same s6
        obtain ⟨la', lb', lc', hl6, _⟩ := id src6
        have nptl := src1.ne npt1
        refine seq_asg (longs_e (K := K) src6 (by omega) f2 f3 fun p a b H7 b7 src7 np npl hp la7 lb7 aw bw => ?_)
        have PL7 := (PL.same s6).but b7
        have ht7 := b7 _ _ nptl ht6
        have ay7 : ∀ y ∈ ys, Askd K H7 y mv wd first mk := fun y hy => (ay y hy).butL hl6 b7
        have au7 : Au K H7 x mv first mk := by
          obtain ⟨dx', t, u, a, r', q'⟩ := au6
          exact ⟨dx', t, u, b7 _ _ (fun z => by rw [z, hl6] at a; cases a) a, r'.butL hl6 b7, SqT.butL hl6 b7 q'⟩
        have b17 : But l H H7 := (b1.trans (But.of s6)).trans b7
        refine ⟨_, rfl, pt, rfl, ⟨_, SqL.of ht7⟩, ?_⟩
        refine for_list (K := K) (a := pt) (xs := ys.map V.ref) (fun i σ H' => ∃ v12 v13 v14 : Option V, σ = [some (.ref l), some (.ref T'), some (.ref r), some (nv first), some (.ref pm), some (nv wd), some (.ref x), some (.ref pt), some (.ref pf), some (.ref pw), some (.ref pb), some (.ref p), v12, v13, v14, none, none, none, none] ∧ Same H7 H') ⟨none, none, none, rfl, L2.Same.refl _⟩ (fun i σ H' _ ⟨_, _, _, _, e⟩ => SqL.of (e _ _ ht7)) ?_ ?_
        · rintro i y σ H8 hy ⟨v12, v13, v14, rfl, s8⟩
          obtain ⟨y, hy', rfl⟩ := map_get hy
          have ask := (ay7 y (List.mem_of_getElem? hy')).same s8
          have PL8 := PL7.same s8
          have hp8 := s8 _ _ hp
          obtain ⟨mo, hmo, mo9⟩ : ∃ mo : Nat, ([V.int 0, .int 9, .int 5, .int 4, .int 3] : List V)[wd]? = some (.int (mo : Nat)) ∧ mo ≤ 9 := by
            have : wd = 1 ∨ wd = 2 ∨ wd = 3 ∨ wd = 4 := by omega
            rcases this with rfl | rfl | rfl | rfl
            · exact ⟨9, rfl, by decide⟩
            · exact ⟨5, rfl, by decide⟩
            · exact ⟨4, rfl, by decide⟩
            · exact ⟨3, rfl, by decide⟩
          refine ⟨_, rfl, (by show 5 ≤ sizeLine; decide), fun q nq => ?_⟩
          have sq := same_upd (o := .lst [V.int 0, .int 9, .int 5, .int 4, .int 3]) nq
          refine ⟨_, rfl, q, _, (wd : Nat), .int (mo : Nat), rfl, rfl, SqL.of upd_same, atI_nat hmo, wd, mo, rfl, f2, f3, mo9, fun pw2 L H9 npw s9 hL wL lL => ?_⟩
          have s89 := sq.trans s9
          have hp9 := s89 _ _ hp8
          refine ⟨_, rfl, pw2, p, _, _, rfl, rfl, SqL.of hL, SqL.of hp9, by rw [List.length_map]; show L.length + 2 ≤ 16777216; omega, fun wl nwl => ⟨wl, rfl, ⟨_, SqL.of upd_same⟩, ?_⟩⟩
          have s10 := s89.trans (same_upd (o := .lst (L.map wv ++ [.str (ws a), .str (ws b)])) nwl)
          have hw10 : L2.upd H9 wl (.lst (L.map wv ++ [.str (ws a), .str (ws b)])) wl = some (.lst ((L ++ [a, b]).map wv)) := by rw [upd_same, List.map_append]; rfl
          generalize L2.upd H9 wl (.lst (L.map wv ++ [.str (ws a), .str (ws b)])) = H10 at s10 hw10 ⊢
          have WW : ∀ z ∈ L ++ [a, b], z.length ≤ 300 ∧ ∀ c ∈ z, c < wd := by
            intro z hz
            rcases List.mem_append.mp hz with h | h
            · exact ⟨by have := (wL z h).1; omega, (wL z h).2⟩
            · simp only [List.mem_cons, List.not_mem_nil, or_false] at h
              rcases h with rfl | rfl
              · exact ⟨by omega, aw⟩
              · exact ⟨by omega, bw⟩
          refine for_list (K := K) (a := wl) (xs := (L ++ [a, b]).map wv) (fun j σ H' => ∃ v13 : Option V, σ = [some (.ref l), some (.ref T'), some (.ref r), some (nv first), some (.ref pm), some (nv wd), some (.ref x), some (.ref pt), some (.ref pf), some (.ref pw), some (.ref pb), some (.ref p), some (.ref y), v13, v14, none, none, none, none] ∧ Same H10 H') ⟨v13, rfl, L2.Same.refl _⟩ (fun j σ H' _ ⟨_, _, e⟩ => SqL.of (e _ _ hw10)) ?_ ?_
          · rintro j y' σ H11 hj ⟨v13, rfl, s11⟩
            obtain ⟨z, hz, rfl⟩ := map_get hj
            obtain ⟨zl, zw⟩ := WW z (List.mem_of_getElem? hz)
            obtain ⟨rows, st, acc, ak, iff⟩ := ask.same (s10.trans s11)
            refine ⟨_, rfl, _, rfl, y, .str (ws z), rows, wd, st, acc, rfl, ak, .inl ⟨z, rfl, zl, zw, fun H12 s12 => ?_⟩⟩
            have e12 : decide (lead rows st z ∈ acc) = decide (lead mv first z ∈ mk) := decide_eq_decide.mpr (iff z zw)
            rw [e12]
            have PL12 := PL8.same ((s10.trans s11).trans s12)
            generalize hb : decide (lead mv first z ∈ mk) = bb
            obtain ⟨rb, rsh, rnd, rde, rle⟩ : Dp K H12 (.bl bb) (.bool bb) ∧ (PyData.bool bb).showable = true ∧ (PyData.bool bb).hasDict = false ∧ (PyData.bool bb).depth ≤ 7 ∧ (PyData.bool bb).shown.length ≤ sizeLine := by
              cases bb <;> exact ⟨.bl _, by decide +kernel, by decide +kernel, by decide +kernel, by decide +kernel⟩
            refine ⟨.bl bb, .bool bb, rfl, rb, rsh, rnd, rde, rle, ?_⟩
            refine ⟨_, rfl, _, rfl, l, T', r, pm, mv, wd, first, mk, z, rfl, PL12, zw, ?_⟩
            rw [hb]
            refine ⟨.bl bb, .bool bb, rfl, rb, rsh, rnd, rde, rle, ?_⟩
            refine ⟨rfl, _, rfl, ifF (by simp) ?_⟩
            exact ⟨_, rfl, s11.trans s12⟩
          · rintro σ H11 ⟨v13, rfl, s11⟩
            have s81 := s10.trans s11
            have hix : ("abcde" : Str).cps.toList[wd]? = some (97 + wd) := by
              have : wd = 1 ∨ wd = 2 ∨ wd = 3 ∨ wd = 4 := by omega
              rcases this with rfl | rfl | rfl | rfl <;> decide +kernel
            refine ⟨_, rfl, ("abcde" : Str), (wd : Nat), 97 + wd, rfl, rfl, by decide, atI_nat hix, ?_⟩
            refine ⟨_, rfl, ("abcde" : Str), (wd : Nat), 97 + wd, rfl, rfl, by decide, atI_nat hix, ("a" : Str), ⟨#[97 + wd]⟩, rfl, rfl, (by show 1 + 1 ≤ 16777216; decide), _, ("a" : Str), rfl, rfl, (by show 2 + 1 ≤ 16777216; decide), ?_⟩
            refine ⟨(by show 1 ≤ sizeLine; decide), fun la2 nla => ⟨(by show 2 ≤ sizeLine; decide), fun tb ntb => fun dd ndd => ⟨(by show 11 ≤ sizeLine; decide), fun lo nlo => ?_⟩⟩⟩
            have hl1 : L2.upd H11 la2 (.lst [.str ("a" : Str)]) la2 = some (.lst [.str ("a" : Str)]) := upd_same
            have k1 := same_upd (o := .lst [.str ("a" : Str)]) nla
            have k2 := same_upd (o := .tup [.str ("a" : Str), .str ("b" : Str)]) ntb
            have k3 := same_upd (o := .dK []) ndd
            have k4 := same_upd (o := .lst [V.str ⟨#[97 + wd]⟩, .str (("a" : Str) ++ (⟨#[97 + wd]⟩ : Str) ++ ("a" : Str)), .str ("A" : Str), .str (" " : Str), .str ("a " : Str), .non, .int 5, .bl true, .ref la2, .ref tb, .ref dd]) nlo
            have hla := k4 _ _ (k3 _ _ (k2 _ _ hl1))
            have htb := k4 _ _ (k3 _ _ (upd_same (H := L2.upd H11 la2 (.lst [.str ("a" : Str)])) (a := tb) (o := .tup [.str ("a" : Str), .str ("b" : Str)])))
            have hdd := k4 _ _ (upd_same (H := L2.upd (L2.upd H11 la2 (.lst [.str ("a" : Str)])) tb (.tup [.str ("a" : Str), .str ("b" : Str)])) (a := dd) (o := .dK []))
            have hlo : L2.upd (L2.upd (L2.upd (L2.upd H11 la2 (.lst [.str ("a" : Str)])) tb (.tup [.str ("a" : Str), .str ("b" : Str)])) dd (.dK [])) lo (.lst [V.str ⟨#[97 + wd]⟩, .str (("a" : Str) ++ (⟨#[97 + wd]⟩ : Str) ++ ("a" : Str)), .str ("A" : Str), .str (" " : Str), .str ("a " : Str), .non, .int 5, .bl true, .ref la2, .ref tb, .ref dd]) lo = some (.lst [V.str ⟨#[97 + wd]⟩, .str (("a" : Str) ++ (⟨#[97 + wd]⟩ : Str) ++ ("a" : Str)), .str ("A" : Str), .str (" " : Str), .str ("a " : Str), .non, .int 5, .bl true, .ref la2, .ref tb, .ref dd]) := upd_same
            have k14 := ((k1.trans k2).trans k3).trans k4
            generalize L2.upd (L2.upd (L2.upd (L2.upd H11 la2 (.lst [.str ("a" : Str)])) tb (.tup [.str ("a" : Str), .str ("b" : Str)])) dd (.dK [])) lo (.lst [V.str ⟨#[97 + wd]⟩, .str (("a" : Str) ++ (⟨#[97 + wd]⟩ : Str) ++ ("a" : Str)), .str ("A" : Str), .str (" " : Str), .str ("a " : Str), .non, .int 5, .bl true, .ref la2, .ref tb, .ref dd]) = H15 at k14 hla htb hdd hlo ⊢
            clear k1 k2 k3 k4 hl1 nla ntb ndd nlo
            have hp15 := (s81.trans k14) _ _ hp8
            refine ⟨_, rfl, [97], 301, rfl, rfl, (by decide), (by decide), (by decide), (by decide), ?_⟩
            refine ⟨_, rfl, p, _, 1, .str (ws b), rfl, rfl, SqL.of hp15, atI_nat (j := 1) rfl, ws b, ("a" : Str), rfl, rfl, (by rw [ws_len, lb7]; show 300 + 1 ≤ 16777216; decide), ?_⟩
            refine ⟨(by show 5 ≤ sizeLine; decide), fun q2 nq2 => ?_⟩
            have k5 := same_upd (o := .lst [V.str (tx aaa), .str (ws b ++ ("a" : Str)), .str ("e" : Str), .str ("a\n" : Str), .str ("0" : Str)]) nq2
            refine ⟨lo, q2, _, _, rfl, rfl, SqL.of (k5 _ _ hlo), SqL.of upd_same, (by show 11 + 5 ≤ 16777216; decide), fun wl2 nwl2 => ⟨wl2, rfl, ⟨_, SqL.of upd_same⟩, ?_⟩⟩
            have k6 := k5.trans (same_upd (o := .lst ([V.str ⟨#[97 + wd]⟩, .str (("a" : Str) ++ (⟨#[97 + wd]⟩ : Str) ++ ("a" : Str)), .str ("A" : Str), .str (" " : Str), .str ("a " : Str), .non, .int 5, .bl true, .ref la2, .ref tb, .ref dd] ++ [V.str (tx aaa), .str (ws b ++ ("a" : Str)), .str ("e" : Str), .str ("a\n" : Str), .str ("0" : Str)])) nwl2)
            have hw17 : L2.upd (L2.upd H15 q2 (.lst [V.str (tx aaa), .str (ws b ++ ("a" : Str)), .str ("e" : Str), .str ("a\n" : Str), .str ("0" : Str)])) wl2 (.lst ([V.str ⟨#[97 + wd]⟩, .str (("a" : Str) ++ (⟨#[97 + wd]⟩ : Str) ++ ("a" : Str)), .str ("A" : Str), .str (" " : Str), .str ("a " : Str), .non, .int 5, .bl true, .ref la2, .ref tb, .ref dd] ++ [V.str (tx aaa), .str (ws b ++ ("a" : Str)), .str ("e" : Str), .str ("a\n" : Str), .str ("0" : Str)])) wl2 = some (.lst ([V.str ⟨#[97 + wd]⟩, .str (("a" : Str) ++ (⟨#[97 + wd]⟩ : Str) ++ ("a" : Str)), .str ("A" : Str), .str (" " : Str), .str ("a " : Str), .non, .int 5, .bl true, .ref la2, .ref tb, .ref dd] ++ [V.str (tx aaa), .str (ws b ++ ("a" : Str)), .str ("e" : Str), .str ("a\n" : Str), .str ("0" : Str)])) := upd_same
            generalize L2.upd (L2.upd H15 q2 (.lst [V.str (tx aaa), .str (ws b ++ ("a" : Str)), .str ("e" : Str), .str ("a\n" : Str), .str ("0" : Str)])) wl2 (.lst ([V.str ⟨#[97 + wd]⟩, .str (("a" : Str) ++ (⟨#[97 + wd]⟩ : Str) ++ ("a" : Str)), .str ("A" : Str), .str (" " : Str), .str ("a " : Str), .non, .int 5, .bl true, .ref la2, .ref tb, .ref dd] ++ [V.str (tx aaa), .str (ws b ++ ("a" : Str)), .str ("e" : Str), .str ("a\n" : Str), .str ("0" : Str)])) = H17 at k6 hw17 ⊢
            have odd : ∀ v ∈ [V.str ⟨#[97 + wd]⟩, .str (("a" : Str) ++ (⟨#[97 + wd]⟩ : Str) ++ ("a" : Str)), .str ("A" : Str), .str (" " : Str), .str ("a " : Str), .non, .int 5, .bl true, .ref la2, .ref tb, .ref dd] ++ [V.str (tx aaa), .str (ws b ++ ("a" : Str)), .str ("e" : Str), .str ("a\n" : Str), .str ("0" : Str)], Odd K H17 wd v := by
              intro v hv
              simp only [List.mem_append, List.mem_cons, List.not_mem_nil, or_false] at hv
              have la1 : aaa.length = 301 := by decide +kernel
              have ca : ∀ c ∈ aaa, c < 128 := by decide +kernel
              rcases hv with (rfl | rfl | rfl | rfl | rfl | rfl | rfl | rfl | rfl | rfl | rfl) | (rfl | rfl | rfl | rfl | rfl)
              · exact odd_sign (c := 97 + wd) (.inr (Nat.le_refl _)) (by omega)
              · rw [show ("a" : Str) = tx [97] by decide +kernel]
                show Odd K H17 wd (.str (tx [97] ++ tx [97 + wd] ++ tx [97]))
                rw [tx_app, tx_app]
                refine odd_txt (fun c hc => ?_) (by show 3 ≤ 500; decide) (wd_bad (c := 97 + wd) (by simp) (.inr (Nat.le_refl _)))
                simp only [List.mem_append, List.mem_cons, List.not_mem_nil, or_false] at hc
                omega
              · rw [show ("A" : Str) = tx [65] by decide +kernel]
                exact odd_sign (.inl (by decide)) (by decide)
              · rw [show (" " : Str) = tx [32] by decide +kernel]
                exact odd_sign (.inl (by decide)) (by decide)
              · rw [show ("a " : Str) = tx [97, 32] by decide +kernel]
                exact odd_txt (by decide) (by decide) (wd_bad (c := 32) (by decide) (.inl (by decide)))
              · exact odd_non
              · exact odd_int
              · exact odd_bl
              · exact odd_lst (k6 _ _ hla)
              · exact odd_tup (k6 _ _ htb)
              · exact odd_dict (k6 _ _ hdd)
              · exact odd_txt ca (by omega) (wd_long (by omega))
              · rw [show ("a" : Str) = tx [97] by decide +kernel]
                show Odd K H17 wd (.str (tx (b.map fun c => 97 + c) ++ tx [97]))
                rw [tx_app]
                have lb1 : ((b.map fun c => 97 + c) ++ [97]).length = 301 := by rw [List.length_append, List.length_map, lb7]; rfl
                refine odd_txt (fun c hc => ?_) (by omega) (wd_long (by omega))
                rcases List.mem_append.mp hc with h | h
                · obtain ⟨d, hd, rfl⟩ := List.mem_map.mp h
                  have := bw d hd
                  omega
                · rw [List.mem_singleton.mp h]; decide
              · rw [show ("e" : Str) = tx [101] by decide +kernel]
                exact odd_sign (.inr (by omega)) (by decide)
              · rw [show ("a\n" : Str) = tx [97, 10] by decide +kernel]
                exact odd_txt (by decide) (by decide) (wd_bad (c := 10) (by decide) (.inl (by decide)))
              · rw [show ("0" : Str) = tx [48] by decide +kernel]
                exact odd_sign (.inl (by decide)) (by decide)
            refine for_list (K := K) (a := wl2) (xs := [V.str ⟨#[97 + wd]⟩, .str (("a" : Str) ++ (⟨#[97 + wd]⟩ : Str) ++ ("a" : Str)), .str ("A" : Str), .str (" " : Str), .str ("a " : Str), .non, .int 5, .bl true, .ref la2, .ref tb, .ref dd] ++ [V.str (tx aaa), .str (ws b ++ ("a" : Str)), .str ("e" : Str), .str ("a\n" : Str), .str ("0" : Str)]) (fun j σ H' => ∃ v13 : Option V, σ = [some (.ref l), some (.ref T'), some (.ref r), some (nv first), some (.ref pm), some (nv wd), some (.ref x), some (.ref pt), some (.ref pf), some (.ref pw), some (.ref pb), some (.ref p), some (.ref y), v13, some (.ref lo), none, none, none, none] ∧ Same H17 H') ⟨v13, rfl, L2.Same.refl _⟩ (fun j σ H' _ ⟨_, _, e⟩ => SqL.of (e _ _ hw17)) ?_ ?_
            · rintro j v σ H18 hj ⟨v13, rfl, s18⟩
              obtain ⟨o, sh, tk, lz, bad, rp⟩ := (odd v (List.mem_of_getElem? hj)).same s18
              obtain ⟨rows, st, acc, ak, _⟩ := ask.same (((s81.trans k14).trans k6).trans s18)
              refine ⟨_, rfl, _, rfl, y, v, rows, wd, st, acc, o, sh, rfl, ak, tk, lz, bad, rp, fun H19 s19 => ⟨_, rfl, ifF rfl ?_⟩⟩
              exact ⟨_, rfl, s18.trans s19⟩
            · rintro σ H18 ⟨v13, rfl, s18⟩
              exact ⟨_, _, _, rfl, s8.trans (((s81.trans k14).trans k6).trans s18)⟩
        · rintro σ H8 ⟨v12, v13, v14, rfl, s8⟩
          have PL8 := PL7.same s8
          have au8 := au7.same s8
          refine ⟨_, rfl, _, rfl, _, rfl, _, rfl, fun x2 dx2 nx2 ndx2 xdx2 => mkA (wd := wd) PL8.m.rl PL8.f PL8.d PL8.a PL8.k.2 PL8.b PL8.c nx2 ndx2 xdx2 fun H9 au9 s9 => ?_⟩
          have c0 : L2.Cls K (He.ga K "Automaton") := He.cls_ok (T.d.fact 72 (f := .cls "Automaton") rfl)
          have au89 := au8.same s9
          obtain ⟨dxa, t, u, hx, _, _⟩ := id au89
          obtain ⟨dxb, t', u', hx', _, _⟩ := id au9
          refine ⟨x, dxa, _, _, rfl, hx, (T.own (x := "Automaton") (by decide)).ty c0 hx', (T.ops (x := "Automaton") (by decide)).notFirst (List.mem_map.mpr ⟨"Automaton", by decide, rfl⟩), x, x2, mv, first, mk, rfl, au89, au9, ?_⟩
          exact fin _ (b17.trans (But.of (s8.trans s9))) ((src7.same (s8.trans s9)).up (by omega))
end
end K67

set_option Elab.async false
set_option linter.all false
set_option maxRecDepth 100000
set_option maxHeartbeats 8000000
namespace K67
open PySem PySem.Spec PyProof.Rows L2 Lf
def spLaw (K : PySem.W.Frag) : Sp := fun vs H Q _ => ∃ (a : Addr) (ns : List Int), vs = [.ref a] ∧ SqL K H a (ns.map V.int) ∧ ns.length ≤ 63 ∧ ∀ H', Q (.bl true) H'
section
variable {P : Program} {w : World} {K : PySem.W.Frag} {mg : Str → Option Value} {base : Heap}
theorem scLaw : FnScope ["_law_script", "_law_cell", "_law_source_here"] ["_law_script"] (defScope s_law) := ⟨rfl, rfl, rfl, by decide +kernel, rfl, by decide +kernel, by decide +kernel⟩
theorem ok_law {f : Addr} {fd : FuncData} {q : Str} (F : FunD K "law" q (defArgs s_law) (defBody s_law) (defScope s_law) [] [] f fd) (T : Txt P w K mg base)
    (DS : Def P w K mg base CX0 1 "_law_source" ["_law_cell"] spSource) (DR : DefG P w K mg base CX0 7 "_law_right" ["_law_source_here"] spRight) :
    FnG P w K mg base CX0 8 f fd ["_law_script"] (spLaw K) := by
  refine okG F scLaw (fun vs H Q E h => ?_) (fun cdv A outer s H vs Q E hgd hr h => ?_)
  · obtain ⟨a, ns, rfl, _⟩ := h
    rfl
  · obtain ⟨a, ns, rfl, hS, hlen, fin⟩ := h
    have R1 : Room 1 _ := hr.mono (by decide)
    refine ⟨_, PSs.nox (pss_cons (ps_for PassesOwn.never rfl (pi_list (pe_slice sl_list (pe_op op_catL (pv 0) (pe_lst (pa_cons pe_int pa_nil))) po_none (po_some pe_int))) (pg_name (i := 1) scLaw.nd rfl (.inl rfl))
        (pss_cons (ps_set (i := 2) scLaw.nd rfl (.inl rfl) (pe_def DS R1 pass0 rfl (pa_cons (pv 1) pa_nil)))
        (pss_one (ps_if (pt_not (pt_val (pe_defG DR hgd hr pass0 rfl (pa_cons (pv 2) pa_nil)))) (pss_one (ps_ret pe_bl)) pss_nil))))
      (pss_one (ps_ret pe_bl))), ?_⟩
    refine ⟨_, rfl, (by show 1 ≤ sizeLine; decide), fun z hz => ⟨a, z, _, _, rfl, rfl, L2.Same.seq (same_upd hz) hS, SqL.of upd_same, ?_, fun l0 h0 => ?_⟩⟩
    · rw [List.length_map]
      show ns.length + 1 ≤ 16777216
      omega
    refine ⟨4, rfl, l0, _, rfl, SqL.of upd_same, fun l1 h1 => ⟨l1, rfl, ⟨_, SqL.of upd_same⟩, ?_⟩⟩
    generalize hHs : L2.upd (L2.upd (L2.upd H z _) l0 _) l1 _ = Hs
    have at1 : Hs l1 = some (.lst (cutV (ns.map V.int ++ [.int 0]) none (some 4))) := by rw [← hHs]; exact upd_same
    clear hHs
    refine for_list (K := K) (a := l1) (xs := cutV (ns.map V.int ++ [.int 0]) none (some 4)) (fun i σ H' => ∃ v1 v2 : Option V, σ = [some (.ref a), v1, v2] ∧ Same Hs H')
      ⟨none, none, rfl, L2.Same.refl _⟩ (fun i σ H' _ ⟨_, _, _, e⟩ => SqL.of (e _ _ at1)) ?_ (fun σ H' _ => ?_)
    · rintro i y σ H1 hi ⟨v1, v2, rfl, e1⟩
      obtain ⟨n, rfl⟩ : ∃ n, y = V.int n := by
        have hm := List.mem_of_getElem? hi
        have hm2 := List.mem_of_mem_drop (List.mem_of_mem_take hm)
        rcases List.mem_append.mp hm2 with q | q
        · obtain ⟨n, _, e⟩ := List.mem_map.mp q
          exact ⟨n, e.symm⟩
        · exact ⟨0, List.mem_singleton.mp q⟩
      refine ⟨_, rfl, n, rfl, fun l H2 nl s2 src2 => ?_⟩
      have e2 : Same Hs H2 := e1.trans s2
      have off : ∀ b o, Hs b = some o → b ≠ l := fun b o h => ne_of_none (e1 _ _ h) nl
      refine ⟨_, rfl, l, 0, rfl, src2, by omega, fun H5 b5 src5 => ⟨_, rfl, ifF rfl ⟨_, _, rfl, fun b o e => b5 _ _ (off b o e) (e2 _ _ e)⟩⟩⟩
    · exact fin _
end
end K67

set_option Elab.async false
set_option linter.all false
set_option maxRecDepth 100000
set_option maxHeartbeats 4000000
/-! A head by three kernel runs: the looks, the view, the facts; the facts over the objects at the addresses as. -/
namespace Lf
open PySem PySem.W PySem.Calls PyProof.Rows
/-- classes, dicts, functions and the rest, in this order -/
def isCl : Obj → Bool
  | ⟨_, _, .cls _, _⟩ => true
  | _ => false
def isDi : Obj → Bool
  | ⟨_, _, .dict _ _, _⟩ => true
  | _ => false
def isFu : Obj → Bool
  | ⟨_, _, .func _, _⟩ => true
  | _ => false
def isFi : Obj → Bool
  | ⟨_, _, .fields vs, _⟩ => !vs.isEmpty
  | _ => false
/-- tuples: the defaults of defs -/
def isTu : Obj → Bool
  | ⟨.type "tuple", _, .seq _ _, _⟩ => true
  | _ => false
def sorted4 (l : Frag) : Frag := l.filter (fun q => isCl q.2) ++ (l.filter (fun q => isDi q.2) ++ (l.filter (fun q => isFu q.2) ++ (l.filter (fun q => isFi q.2) ++ l.filter fun q => isTu q.2)))
theorem sorted4_sub {l : Frag} {q : Addr × Obj} (h : q ∈ sorted4 l) : q ∈ l := by
  unfold sorted4 at h
  simp only [List.mem_append, List.mem_filter] at h
  rcases h with h | h | h | h | h <;> exact h.1
def frR (g : Addr → Option Obj) (as : List Addr) : Frag := sorted4 (He.frG g as)
theorem frR_in {as : List Addr} {h : Heap} : (frR h.get? as).In h := fun _ _ e => He.frG_mem (sorted4_sub (He.lookup_mem e))
theorem frR_none {g : Addr → Option Obj} {as : List Addr} {a : Addr} {o : Obj} (h : g a = some o) (ht : He.emptyTab o = true) : (frR g as).lookup a = none := by
  cases e : (frR g as).lookup a with
  | none => rfl
  | some u =>
    have m := He.lookup_mem e
    have z := He.frG_mem (sorted4_sub m)
    rw [h] at z
    obtain rfl := Option.some.inj z
    rw [He.emptyTab_eq ht] at m
    unfold frR sorted4 at m
    simp only [List.mem_append, List.mem_filter] at m
    rcases m with m | m | m | m | m <;> exact absurd m.2 (by decide)
/-- what is told: the facts, the Bool, the defs' code tables: empty, not among the objects looked at -/
structure SaysR (fa : List He.Fa) (fn : List He.DefD) (tf : List He.Defn) (ex : Frag → Bool) (h : Heap) (K : Frag) : Prop where
  d : He.SaysD fa fn K
  m : ex K = true
  hd : ∀ p ∈ tf, codeHdIn K (He.cT K p).1 (He.cT K p).2 = true
  out : ∀ p ∈ tf, K.lookup (He.cT K p).2 = none
  empty : ∀ p ∈ tf, h.get? (He.cT K p).2 = some { cls := .none, data := .fields #[] }
def obsR (as : List Addr) (fa : List He.Fa) (fn : List He.DefD) (tf : List He.Defn) (ex : Frag → Bool) (g : Addr → Option Obj) : He.AlD × Bool :=
  (He.obsD fa fn (frR g as), ex (frR g as) && He.tabsB g tf (frR g as))
theorem saysR_of {as : List Addr} {fa : List He.Fa} {fn : List He.DefD} {tf : List He.Defn} {ex : Frag → Bool} {h : Heap} (e : obsR as fa fn tf ex h.get? = (He.valD fn, true)) : SaysR fa fn tf ex h (frR h.get? as) := by
  obtain ⟨h1, h2⟩ := He.ba (show (ex (frR h.get? as) && He.tabsB h.get? tf (frR h.get? as)) = true from congrArg Prod.snd e)
  have key : ∀ p ∈ tf, codeHdIn (frR h.get? as) (He.cT (frR h.get? as) p).1 (He.cT (frR h.get? as) p).2 = true ∧ ∃ o, h.get? (He.cT (frR h.get? as) p).2 = some o ∧ He.emptyTab o = true := fun p hp => by
    obtain ⟨k1, k2⟩ := He.ba (List.all_eq_true.mp h2 p hp)
    refine ⟨k1, ?_⟩
    cases q : h.get? (He.cT (frR h.get? as) p).2 with
    | none => rw [q] at k2; cases k2
    | some o => rw [q] at k2; exact ⟨o, rfl, k2⟩
  refine ⟨congrArg Prod.fst e, h1, fun p hp => (key p hp).1, fun p hp => ?_, fun p hp => ?_⟩
  · obtain ⟨_, o, q, z⟩ := key p hp
    exact frR_none q z
  · obtain ⟨_, o, q, z⟩ := key p hp
    rw [q, He.emptyTab_eq z]
def hookR (as : List Addr) (fa : List He.Fa) (fn : List He.DefD) (tf : List He.Defn) (ex : Frag → Bool) : Hook where
  α := He.AlD × Bool
  obs := fun s => obsR as fa fn tf ex s.heap.get?
  val := fun _ => (He.valD fn, true)
  says := fun _ h => ∃ K : Frag, K.In h ∧ SaysR fa fn tf ex h K
  of := fun _ _ e => ⟨_, frR_in, saysR_of e⟩
  keeps := fun _ _ _ ⟨K, hK, c⟩ k => ⟨K, Frag.In.keeps hK k, ⟨c.d, c.m, c.hd, c.out, fun p hp => k _ _ (c.empty p hp)⟩⟩
theorem obsR_eq {as : List Addr} {fa : List He.Fa} {fn : List He.DefD} {tf : List He.Defn} {ex : Frag → Bool} {g : Addr → Option Obj} {s : Shared} (h : ∀ a, g a = s.heap.get? a) : obsR as fa fn tf ex g = (hookR as fa fn tf ex).obs s := by
  have e : g = s.heap.get? := funext h
  rw [e] <;> rfl
theorem three {α A B C : Type} {o : Option α} {f : α → A} {g : α → B} {h : α → C} {a : A} {b : B} {c : C} (x : o.map f = some a) (y : o.map g = some b) (z : o.map h = some c) : o.map (fun s => (f s, g s, h s)) = some (a, b, c) := by
  cases o with
  | none => cases x
  | some s =>
    have x1 : f s = a := Option.some.inj x
    have y1 : g s = b := Option.some.inj y
    have z1 : h s = c := Option.some.inj z
    show some (f s, g s, h s) = _
    rw [x1, y1, z1]
/-- the state behind the top -/
noncomputable def endOf (r : OpenRow) (M : Nat) (w : World) (os : OsState) : Option SharedT := HandSHeadRun.endF (HandSHeadRun.stepQ (HandSHeadRun.denQ HandSHeadRun.tabQ) r.prog w) M r.prog w os
noncomputable def looksOf (r : OpenRow) (w : World) (s : SharedT) : Bool := HandSHeadRun.looksF r.prog (boot_heap w.params) s.abs
noncomputable def viewOf (r : OpenRow) (q : Program) (loose : List PySem.Str) (s : SharedT) := HandSHeadRun.seenQ q loose (importedModules r.prog.main.body) (fun s => xlAt q [] s && recOk r.toRowW.records s) s.abs
theorem run_three {r : OpenRow} {q : Program} {H : Hook} {ob : SharedT → H.α} {M : Nat} {loose : List PySem.Str} {w : World} (a : ∀ os, (endOf r M w os).map (looksOf r w) = some true)
    (b : ∀ os, (endOf r M w os).map (viewOf r q loose) = some (openGood q loose)) (c : ∀ os, (endOf r M w os).map ob = some (H.val w)) : HandSHeadRun.RunEq r q H ob M loose w := fun os => three (a os) (b os) (c os)
end Lf

set_option Elab.async false
set_option linter.all false
set_option maxRecDepth 100000
set_option maxHeartbeats 0
namespace K67
open PySem PySem.Spec PyProof.Rows L2
abbrev R : PySem.W.OpenRow := PySem.W.OpenLaw.row PySem.Challenge.rw_letterfolds_k67_words_that_things_have
abbrev vw : Program := PySem.W.view R.prog [50]
def as : List Addr := List.range 1600
abbrev hk : PySem.W.Hook := Lf.hookR as fa fn tf ex
def ob (s : PySem.W.SharedT) : He.AlD × Bool := Lf.obsR as fa fn tf ex (HandSHeadRun.getT s)
theorem ob_eq (s : PySem.W.SharedT) : ob s = hk.obs s.abs := Lf.obsR_eq (HandSHeadRun.getT_eq s)
theorem runA (w : World) (os : OsState) : (Lf.endOf R 20000 w os).map (Lf.looksOf R w) = some true := by kernel_rfl
theorem runB (w : World) (os : OsState) : (Lf.endOf R 20000 w os).map (Lf.viewOf R vw loose) = some (PySem.W.openGood vw loose) := by kernel_rfl
theorem runC (w : World) (os : OsState) : (Lf.endOf R 20000 w os).map ob = some (hk.val w) := by kernel_rfl
theorem run (w : World) : HandSHeadRun.RunEq R vw hk ob 20000 loose w := Lf.run_three (runA w) (runB w) (runC w)
end K67

set_option Elab.async false
set_option linter.all false
set_option maxRecDepth 100000
set_option maxHeartbeats 4000000
/-! The end for a law that is promised only where no repr is under way. -/
namespace Lf
open PySem PySem.Spec PyProof.Rows L2
section
variable {P : Program} {w : World} {K : PySem.W.Frag} {mg mb : Str → Option Value} {CX : CXT} {k : Nat} {fa a : Addr} {fd : FuncData} {x : Str} {sp : Sp} {s₁ : Shared} {vs : List Value} {ns : List Int}
/-- the caller's world, with at most the script tracked -/
theorem env_law {H : Hp} (KX : K.In s₁.heap) (hns : s₁.heap.Ns mainGlobals mg) (hb : s₁.heap.Ns builtinsNs mb) (hbb : ∀ x : Str, x ≠ "__name__" → mb x = bootBuiltins x) (hlim : s₁.heap.NoLimit) (hg : s₁.gens = #[])
    (ha : s₁.heap.get? a = some { cls := .type "list", data := .seq vs.toArray }) (hok : HOk P w H s₁.heap) (hA : ∀ b, H b ≠ none → b = a ∧ K.lookup a = none) :
    K.In (hidT s₁.heap H) ∧ (hidT s₁.heap H).Ns mainGlobals mg ∧ Env0 P w K mg (hidT s₁.heap H) callerA [] s₁ H := by
  have free : ∀ {b : Addr} {o : Obj}, s₁.heap.get? b = some o → o.data ≠ .seq vs.toArray → H b = none := fun {b o} e d => by
    cases q : H b with
    | none => rfl
    | some u =>
      obtain ⟨rfl, _⟩ := hA b (by rw [q]; simp)
      rw [ha] at e
      cases e
      exact absurd rfl d
  have names : ∀ {b : Addr} {m : Str → Option Value}, s₁.heap.Ns b m → (hidT s₁.heap H).Ns b m := fun {b m} h => by
    obtain ⟨o, es, ep, e, d, r⟩ := h
    exact ⟨o, es, ep, hidT_get e (free e (by rw [d]; simp)), d, r⟩
  have kin : K.In (hidT s₁.heap H) := fun b o e => hidT_get (KX b o e) (by
    cases q : H b with
    | none => rfl
    | some u =>
      obtain ⟨rfl, z⟩ := hA b (by rw [q]; simp)
      rw [z] at e
      cases e)
  obtain ⟨mc, l1, l2⟩ := hlim
  exact ⟨kin, names hns, rfl, ⟨kin, names hns, ⟨mb, names hb, hbb⟩, mc, names l1, l2⟩, fun b o e => of_hidT e, Nat.le_of_eq (hidT_size _ _), trivial, fun b hb => absurd (show b ∈ ([] : List Addr) from hb) (by simp), hok, .of_eq hg⟩
theorem law_callG (KX : K.In s₁.heap) (hns : s₁.heap.Ns mainGlobals mg) (hb : s₁.heap.Ns builtinsNs mb) (hbb : ∀ x : Str, x ≠ "__name__" → mb x = bootBuiltins x) (hlim : s₁.heap.NoLimit) (hg : s₁.gens = #[])
    (ha : s₁.heap.get? a = some { cls := .type "list", data := .seq vs.toArray }) (hi : IntsAre vs ns) (hl : ns.length ≤ sizeLine) (hr : Room k callerA)
    (F : ∀ base : Heap, K.In base → base.Ns mainGlobals mg → FnG P w K mg base CX k fa fd [x] sp) (hbind : ∀ (s : Shared) (u : Value), BindsTo s fd ⟨[u], []⟩ [(x, u)])
    (hsp : ∀ H : Hp, Only H → SqL K H a (ns.map V.int) → sp [.ref a] H (fun v _ => v = .bl true) fun _ _ _ => False)
    (hCX : ∀ H e s', CX [] H s₁ (fun _ _ _ => False) e s' → False) :
    codeAny (model P w) callerA (.call (.ref fa) ⟨[.ref a], []⟩) (fun r s' => r = .ok (.ret (.bool true)) ∧ OldK s₁.heap s'.heap ∧ s'.os = s₁.os ∧ AllBare s'.gens) s₁ := by
  obtain ⟨H, hO, hS, hok, hA⟩ : ∃ H : Hp, Only H ∧ SqL K H a (ns.map V.int) ∧ HOk P w H s₁.heap ∧ ∀ b, H b ≠ none → b = a ∧ K.lookup a = none := by
    have rv := vals_ints hi
    cases hk : K.lookup a with
    | some o =>
      have e := KX a o hk
      rw [ha] at e
      cases e
      exact ⟨fun _ => none, fun _ => .inl rfl, .inr ⟨_, vs.toArray, _, hk, rfl, rfl, rfl, by rw [List.size_toArray, hi.length]; exact hl, by simpa using rv⟩, (fun b u z => by cases (show (none : Option HO) = some u from z)), fun b z => absurd rfl z⟩
    | none =>
      refine ⟨L2.upd (fun _ => none) a (.frz { cls := .type "list", data := .seq vs.toArray } (.lst (ns.map V.int))), fun b => ?_, .inl (.inr ⟨_, upd_same⟩), fun b u z => ?_, fun b z => ?_⟩
      · by_cases e : b = a
        · subst e
          exact .inr ⟨_, _, upd_same⟩
        · exact .inl (upd_ne e)
      · by_cases e : b = a
        · subst e
          rw [upd_same] at z
          cases z
          exact ⟨ha, by rw [List.length_map]; exact hl, vs, _, rv, ha⟩
        · rw [upd_ne e] at z
          cases z
      · by_cases e : b = a
        · exact ⟨e, rfl⟩
        · exact absurd (upd_ne e) z
  obtain ⟨kin, nm, e0⟩ := env_law KX hns hb hbb hlim hg ha hok hA
  refine codeAny_mono ((F _ kin nm).run callerA [] s₁ H ⟨[.ref a], []⟩ [.ref a] [.ref a] _ _ rfl hr e0 (hbind s₁ (.ref a)) (.cons rfl .nil) (hsp H hO hS)) fun r s' h => ?_
  cases r with
  | error e => exact (hCX H e s' h).elim
  | ok fl =>
    cases fl with
    | next => exact False.elim h
    | brk => exact False.elim h
    | cont => exact False.elim h
    | ret u =>
      obtain ⟨v, H', os, bare, un, hok', r', q⟩ := h
      cases (show v = .bl true from q)
      cases (show u = Value.bool true from r')
      refine ⟨rfl, OldK.of_keep fun b o e => ?_, os, bare⟩
      cases q : H b with
      | none => exact un.keep b o e q (by intro z; exact absurd (show b ∈ ([] : List Addr) from z) (by simp)) (by simp)
      | some u =>
        rcases hO b with z | ⟨ob, xs, z⟩
        · rw [q] at z
          cases z
        · have e1 := (hok b _ z).1
          rw [e] at e1
          cases e1
          exact (hok' b _ (un.frzs b _ _ z)).1
end
theorem walk_ofG {l : PySem.W.OpenLaw} {n k : Nat} {q : Program} {loose : List Str} {XP : (Str → Option Value) → Heap → Prop} {YP : World → Heap → Prop} {d : DefRec} {CX : CXT} {x : Str}
    (hn : l.most = some n) (hn2 : n ≤ sizeLine) (hdf : d.params.defaults = []) (hr : Room k callerA)
    (F : ∀ (w : World) (mg : Str → Option Value) (fa : Addr) (h : Heap), YP w h → h.Ns mainGlobals mg → mg d.name = some (.ref fa) →
      ∃ (K : PySem.W.Frag) (fd : FuncData) (sp : Sp), K.In h ∧ (∀ (s : Shared) (u : Value), BindsTo s fd ⟨[u], []⟩ [(x, u)]) ∧
        (∀ (H : Hp) (a : Addr) (ns : List Int), ns.length ≤ n → Only H → SqL K H a (ns.map V.int) → sp [.ref a] H (fun v _ => v = .bl true) fun _ _ _ => False) ∧
        ∀ base : Heap, K.In base → base.Ns mainGlobals mg → FnG l.prog w K mg base CX k fa fd [x] sp)
    (hCX : ∀ (H : Hp) (s : Shared) (e : Value) (s' : Shared), CX [] H s (fun _ _ _ => False) e s' → False) :
    PySem.W.WalkO q loose XP YP l.row.toRowW d [] (fun f vs => PySem.call f vs) := by
  refine Att.attach_call hn hdf fun w s₀ s₁ mg mb fa o pm cd doc a vs ns G Y ho hd hcd hmg hobj hints hlen hg => ?_
  obtain ⟨K, fd, sp, KX, hb, hsp, hF⟩ := F w mg fa _ Y G.T.g hmg
  exact law_callG KX G.T.g G.T.b G.T.builtins G.T.nolimit hg hobj hints (Nat.le_trans hlen hn2) hr hF hb (fun H hO hS => hsp H a ns hlen hO hS) fun H e s' => hCX H s₁ e s'
end Lf

set_option Elab.async false
set_option linter.all false
set_option maxRecDepth 100000
set_option maxHeartbeats 8000000
namespace K67
open PySem PySem.Spec PyProof.Rows L2 Lf
theorem facts {P : Program} {w : World} {K : PySem.W.Frag} {h : Heap} {mg : Str → Option Value} {f : Addr} (X : K.In h) (G : h.Ns mainGlobals mg) (hfa : mg ("law" : Str) = some (.ref f)) (c : He.SaysD fa fn K) (m : ex K = true) :
    ∃ fd : FuncData, (∀ (s : Shared) (v : Value), BindsTo s fd ⟨[v], []⟩ [("_law_script", v)]) ∧ ∀ base : Heap, K.In base → base.Ns mainGlobals mg → FnG P w K mg base CX0 8 f fd ["_law_script"] (spLaw K) := by
  obtain ⟨fd_is_number, F_is_number⟩ := c.def_ 0 (d := d_is_number) rfl
  obtain ⟨fd_is_between, F_is_between⟩ := c.def_ 1 (d := d_is_between) rfl
  obtain ⟨fd_is_sequence, F_is_sequence⟩ := c.def_ 2 (d := d_is_sequence) rfl
  obtain ⟨fd_wrong_place, F_wrong_place⟩ := c.def_ 3 (d := d_wrong_place) rfl
  obtain ⟨fd_is_word, F_is_word⟩ := c.def_ 4 (d := d_is_word) rfl
  obtain ⟨fd_Monoid_init, F_Monoid_init⟩ := c.def_ 17 (d := d_Monoid_init) rfl
  obtain ⟨fd_Monoid_size, F_Monoid_size⟩ := c.def_ 19 (d := d_Monoid_size) rfl
  obtain ⟨fd_check_monoid, F_check_monoid⟩ := c.def_ 24 (d := d_check_monoid) rfl
  obtain ⟨fd_check_form, F_check_form⟩ := c.def_ 25 (d := d_check_form) rfl
  obtain ⟨fd_made_by, F_made_by⟩ := c.def_ 26 (d := d_made_by) rfl
  obtain ⟨fd_left_table, F_left_table⟩ := c.def_ 27 (d := d_left_table) rfl
  obtain ⟨fd_check_products, F_check_products⟩ := c.def_ 28 (d := d_check_products) rfl
  obtain ⟨fd_Automaton_init, F_Automaton_init⟩ := c.def_ 31 (d := d_Automaton_init) rfl
  obtain ⟨fd_Automaton_eq, F_Automaton_eq⟩ := c.def_ 32 (d := d_Automaton_eq) rfl
  obtain ⟨fd_Language_init, F_Language_init⟩ := c.def_ 33 (d := d_Language_init) rfl
  obtain ⟨fd_accepts, F_accepts⟩ := c.def_ 35 (d := d_accepts) rfl
  obtain ⟨fd_check_thing, F_check_thing⟩ := c.def_ 36 (d := d_check_thing) rfl
  obtain ⟨fd_are_rows, F_are_rows⟩ := c.def_ 37 (d := d_are_rows) rfl
  obtain ⟨fd_states_of, F_states_of⟩ := c.def_ 38 (d := d_states_of) rfl
  obtain ⟨fd_L_source, F_L_source⟩ := c.def_ 39 (d := d_L_source) rfl
  obtain ⟨fd_L_draw, F_L_draw⟩ := c.def_ 40 (d := d_L_draw) rfl
  obtain ⟨fd_L_pick, F_L_pick⟩ := c.def_ 41 (d := d_L_pick) rfl
  obtain ⟨fd_L_moves, F_L_moves⟩ := c.def_ 42 (d := d_L_moves) rfl
  obtain ⟨fd_L_plan, F_L_plan⟩ := c.def_ 43 (d := d_L_plan) rfl
  obtain ⟨fd_L_all_words, F_L_all_words⟩ := c.def_ 44 (d := d_L_all_words) rfl
  obtain ⟨fd_L_led, F_L_led⟩ := c.def_ 45 (d := d_L_led) rfl
  obtain ⟨fd_L_has, F_L_has⟩ := c.def_ 46 (d := d_L_has) rfl
  obtain ⟨fd_L_acts, F_L_acts⟩ := c.def_ 47 (d := d_L_acts) rfl
  obtain ⟨fd_L_refused, F_L_refused⟩ := c.def_ 48 (d := d_L_refused) rfl
  obtain ⟨fd_L_right, F_L_right⟩ := c.def_ 49 (d := d_L_right) rfl
  obtain ⟨fd, F⟩ := c.def_ 50 (d := d_law) rfl
  have gl : ∀ (i : Nat) (x : Str), fa[i]? = some (.glo x) → mg x = some (.ref (He.ga K x)) := fun i x e => He.glo_ok X G (c.fact i e)
  have fr : ∀ (i : Nat) (x : Str), fa[i]? = some (.free x) → mg x = none := fun i x e => He.free_ok X G (c.fact i e)
  have it : ∀ (i : Nat) (x : Str) (v : Int), fa[i]? = some (.int x v) → ∃ t, mg x = some (.int v t) := fun i x v e => He.int_ok X G (c.fact i e)
  have st : ∀ (i : Nat) (x v : Str), fa[i]? = some (.str x v) → ∃ t, mg x = some (.str v t) := fun i x v e => He.str_ok X G (c.fact i e)
  have e := hfa.symm.trans (gl 37 "law" rfl)
  cases e
  have b := FunD.bindsA (ps := ["_law_script"]) F fun _ _ _ _ _ _ us hl => match us, hl with | [_], _ => rfl
  refine ⟨fd, fun s v => b s [v] rfl, fun base _ _ => ?_⟩
  have T : Txt P w K mg base := ⟨c, m, gl, fr, it, st⟩
  have z_ValueError : mg "ValueError" = none := T.fr 45 "ValueError" rfl
  have z_abs : mg "abs" = none := T.fr 46 "abs" rfl
  have z_all : mg "all" = none := T.fr 47 "all" rfl
  have z_bool : mg "bool" = none := T.fr 48 "bool" rfl
  have z_enumerate : mg "enumerate" = none := T.fr 49 "enumerate" rfl
  have z_int : mg "int" = none := T.fr 50 "int" rfl
  have z_isinstance : mg "isinstance" = none := T.fr 51 "isinstance" rfl
  have z_len : mg "len" = none := T.fr 52 "len" rfl
  have z_list : mg "list" = none := T.fr 53 "list" rfl
  have z_max : mg "max" = none := T.fr 54 "max" rfl
  have z_range : mg "range" = none := T.fr 55 "range" rfl
  have z_repr : mg "repr" = none := T.fr 56 "repr" rfl
  have z_set : mg "set" = none := T.fr 57 "set" rfl
  have z_sorted : mg "sorted" = none := T.fr 58 "sorted" rfl
  have z_str : mg "str" = none := T.fr 59 "str" rfl
  have z_tuple : mg "tuple" = none := T.fr 60 "tuple" rfl
  obtain ⟨t_LETTERS, g_LETTERS⟩ := T.st 43 "LETTERS" "abcdef" rfl
  obtain ⟨t_SIGNS, g_SIGNS⟩ := T.st 44 "SIGNS" "abcdefghijklmnopqrst" rfl
  have D_is_number : Def P w K mg base CX0 1 "is_number" ["thing"] spNum := ⟨_, fd_is_number, T.gl 10 "is_number" rfl, F_is_number.kp, ok_num F_is_number z_isinstance z_int z_bool, F_is_number.bindsN fun _ _ _ _ _ _ us hl => match us, hl with | [_], _ => rfl⟩
  have D_is_between : Def P w K mg base CX0 2 "is_between" ["thing", "least", "most"] spBtw := ⟨_, fd_is_between, T.gl 11 "is_between" rfl, F_is_between.kp, ok_btw F_is_between D_is_number, F_is_between.bindsN fun _ _ _ _ _ _ us hl => match us, hl with | [_, _, _], _ => rfl⟩
  have D_is_sequence : Def P w K mg base CX0 1 "is_sequence" ["thing", "least", "most"] (spSeq K) := ⟨_, fd_is_sequence, T.gl 12 "is_sequence" rfl, F_is_sequence.kp, ok_seq F_is_sequence z_isinstance z_list z_tuple z_len, F_is_sequence.bindsN fun _ _ _ _ _ _ us hl => match us, hl with | [_, _, _], _ => rfl⟩
  obtain ⟨ds_w, vs_w, bs_w⟩ := F_is_word.binds1 (ps := ["thing", "letters", "most"]) 3 1 (by intro z; cases z) rfl fun T kV doc pm an cdv ct us its hl hi => match us, its, hl, hi with | [_, _, _], [_], _, _ => ⟨_, rfl, rfl⟩
  cases vs_w
  have D_is_word : Def P w K mg base CX0 1 "is_word" ["thing", "letters", "most"] (spWord K) := ⟨_, fd_is_word, T.gl 14 "is_word" rfl, F_is_word.kp, ok_word F_is_word g_LETTERS z_isinstance z_str z_len z_all, bs_w⟩
  have D_wrong_place : Def P w K mg base CX0 3 "wrong_place" ["thing", "many"] (spWrong K) := ⟨_, fd_wrong_place, T.gl 13 "wrong_place" rfl, F_wrong_place.kp, ok_wrong F_wrong_place z_isinstance z_list z_tuple z_enumerate D_is_between, F_wrong_place.bindsN fun _ _ _ _ _ _ us hl => match us, hl with | [_, _], _ => rfl⟩
  have D_check_form : Def P w K mg base CX0 3 "_check_form" ["right"] (spForm K) := ⟨_, fd_check_form, T.gl 16 "_check_form" rfl, F_check_form.kp, ok_form F_check_form T D_is_sequence D_is_between, F_check_form.bindsN fun _ _ _ _ _ _ us hl => match us, hl with | [_], _ => rfl⟩
  have D_made_by : Def P w K mg base CX0 1 "_made_by" ["right"] (spMade K) := ⟨_, fd_made_by, T.gl 17 "_made_by" rfl, F_made_by.kp, ok_made F_made_by T, F_made_by.bindsN fun _ _ _ _ _ _ us hl => match us, hl with | [_], _ => rfl⟩
  have D_left_table : Def P w K mg base CX0 1 "_left_table" ["right", "made"] (spLeft K) := ⟨_, fd_left_table, T.gl 18 "_left_table" rfl, F_left_table.kp, ok_left F_left_table T, F_left_table.bindsN fun _ _ _ _ _ _ us hl => match us, hl with | [_, _], _ => rfl⟩
  have D_check_products : Def P w K mg base CX0 1 "_check_products" ["right", "left"] (spProds K) := ⟨_, fd_check_products, T.gl 19 "_check_products" rfl, F_check_products.kp, ok_prods F_check_products T, F_check_products.bindsN fun _ _ _ _ _ _ us hl => match us, hl with | [_, _], _ => rfl⟩
  have mM : L2.Mk K (He.ga K "Monoid") (He.ma K (He.ga K "Monoid") "__init__") := He.mkr_ok (T.d.fact 62 (f := .mkr "Monoid") rfl)
  have FM := ok_mon F_Monoid_init T D_check_form D_made_by D_left_table D_check_products
  have bM : L2.Binds K fd_Monoid_init ["self", "right"] [] := F_Monoid_init.bindsN fun _ _ _ _ _ _ us hl => match us, hl with | [_, _], _ => rfl
  have M_size : DefM P w K mg base CX0 1 "size" ["self"] (spSize K) := ⟨_, fd_Monoid_size, He.meth_ok (T.d.fact 64 (f := .meth "Monoid" "size") rfl), ok_size F_Monoid_size T, F_Monoid_size.bindsN fun _ _ _ _ _ _ us hl => match us, hl with | [_], _ => rfl⟩
  have D_check_monoid : Def P w K mg base CX0 1 "check_monoid" ["thing"] (spCkM K) := ⟨_, fd_check_monoid, T.gl 15 "check_monoid" rfl, F_check_monoid.kp, ok_ckM F_check_monoid T, F_check_monoid.bindsN fun _ _ _ _ _ _ us hl => match us, hl with | [_], _ => rfl⟩
  have D_are_rows : Def P w K mg base CX0 4 "_are_rows" ["rows"] (spRows K) := ⟨_, fd_are_rows, T.gl 24 "_are_rows" rfl, F_are_rows.kp, ok_rows F_are_rows T D_is_sequence D_wrong_place, F_are_rows.bindsN fun _ _ _ _ _ _ us hl => match us, hl with | [_], _ => rfl⟩
  have mA : L2.Mk K (He.ga K "Automaton") (He.ma K (He.ga K "Automaton") "__init__") := He.mkr_ok (T.d.fact 73 (f := .mkr "Automaton") rfl)
  have FA := ok_aut F_Automaton_init T D_are_rows D_is_between D_wrong_place
  have bA : L2.Binds K fd_Automaton_init ["self", "rows", "start", "accepted"] [] := F_Automaton_init.bindsN fun _ _ _ _ _ _ us hl => match us, hl with | [_, _, _, _], _ => rfl
  have mL : L2.Mk K (He.ga K "Language") (He.ma K (He.ga K "Language") "__init__") := He.mkr_ok (T.d.fact 79 (f := .mkr "Language") rfl)
  have FL := ok_lan F_Language_init T D_check_monoid M_size D_wrong_place
  have bL : L2.Binds K fd_Language_init ["self", "monoid", "accepted"] [] := F_Language_init.bindsN fun _ _ _ _ _ _ us hl => match us, hl with | [_, _, _], _ => rfl
  have mE : Meth K (He.ga K "Automaton") "__eq__" (He.ma K (He.ga K "Automaton") "__eq__") := He.meth_ok (T.d.fact 74 (f := .meth "Automaton" "__eq__") rfl)
  have FE := ok_eqA F_Automaton_eq T
  have bE : L2.Binds K fd_Automaton_eq ["self", "other"] [] := F_Automaton_eq.bindsN fun _ _ _ _ _ _ us hl => match us, hl with | [_, _], _ => rfl
  have D_check_thing : Def P w K mg base CX0 1 "check_thing" ["thing"] (spCkT K) := ⟨_, fd_check_thing, T.gl 23 "check_thing" rfl, F_check_thing.kp, ok_ckT F_check_thing T, F_check_thing.bindsN fun _ _ _ _ _ _ us hl => match us, hl with | [_], _ => rfl⟩
  have D_states_of : Def P w K mg base CX0 2 "_states_of" ["thing"] (spSt K) := ⟨_, fd_states_of, T.gl 25 "_states_of" rfl, F_states_of.kp, ok_st F_states_of T D_check_thing, F_states_of.bindsN fun _ _ _ _ _ _ us hl => match us, hl with | [_], _ => rfl⟩
  have FS := ok_acc F_accepts T D_states_of D_is_word (er_NoWord T)
  have bS : L2.Binds K fd_accepts ["thing", "word"] [] := F_accepts.bindsN fun _ _ _ _ _ _ us hl => match us, hl with | [_, _], _ => rfl
  have D_L_source : Def P w K mg base CX0 1 "_law_source" ["_law_cell"] spSource := ⟨_, fd_L_source, T.gl 26 "_law_source" rfl, F_L_source.kp, ok_source F_L_source z_abs z_int, F_L_source.bindsN fun _ _ _ _ _ _ us hl => match us, hl with | [_], _ => rfl⟩
  have D_L_draw : Def P w K mg base CX0 1 "_law_draw" ["_law_source_here", "_law_many"] spDraw := ⟨_, fd_L_draw, T.gl 27 "_law_draw" rfl, F_L_draw.kp, ok_draw F_L_draw z_int, F_L_draw.bindsN fun _ _ _ _ _ _ us hl => match us, hl with | [_, _], _ => rfl⟩
  have D_L_pick : Def P w K mg base CX0 2 "_law_pick" ["_law_source_here", "_law_some"] spPick := ⟨_, fd_L_pick, T.gl 28 "_law_pick" rfl, F_L_pick.kp, ok_pick F_L_pick z_len D_L_draw, F_L_pick.bindsN fun _ _ _ _ _ _ us hl => match us, hl with | [_, _], _ => rfl⟩
  have D_L_moves : Def P w K mg base CX0 3 "_law_moves" ["_law_source_here", "_law_many", "_law_letters"] spMoves := ⟨_, fd_L_moves, T.gl 29 "_law_moves" rfl, F_L_moves.kp, ok_moves F_L_moves z_range z_len z_list z_max z_sorted z_enumerate D_L_draw D_L_pick, F_L_moves.bindsN fun _ _ _ _ _ _ us hl => match us, hl with | [_, _, _], _ => rfl⟩
  have D_L_plan : Def P w K mg base CX0 4 "_law_plan" ["_law_source_here", "_law_most"] spPlan := ⟨_, fd_L_plan, T.gl 30 "_law_plan" rfl, F_L_plan.kp, ok_plan F_L_plan z_range D_L_draw D_L_pick D_L_moves, F_L_plan.bindsN fun _ _ _ _ _ _ us hl => match us, hl with | [_, _], _ => rfl⟩
  have D_L_all_words : Def P w K mg base CX0 1 "_law_all_words" ["_law_letters", "_law_most"] spAll := ⟨_, fd_L_all_words, T.gl 31 "_law_all_words" rfl, F_L_all_words.kp, ok_all F_L_all_words z_range, F_L_all_words.bindsN fun _ _ _ _ _ _ us hl => match us, hl with | [_, _], _ => rfl⟩
  have D_L_led : Def P w K mg base CX0 1 "_law_led" ["_law_plan_here", "_law_word"] spLed := ⟨_, fd_L_led, T.gl 32 "_law_led" rfl, F_L_led.kp, ok_led F_L_led, F_L_led.bindsN fun _ _ _ _ _ _ us hl => match us, hl with | [_, _], _ => rfl⟩
  have D_L_has : Def P w K mg base CX0 2 "_law_has" ["_law_plan_here", "_law_word"] spHas := ⟨_, fd_L_has, T.gl 33 "_law_has" rfl, F_L_has.kp, ok_has F_L_has D_L_led, F_L_has.bindsN fun _ _ _ _ _ _ us hl => match us, hl with | [_, _], _ => rfl⟩
  have D_L_acts : Def P w K mg base CX0 1 "_law_acts" ["_law_moves_here"] spActs := ⟨_, fd_L_acts, T.gl 34 "_law_acts" rfl, F_L_acts.kp, ok_acts F_L_acts z_range z_tuple z_len, F_L_acts.bindsN fun _ _ _ _ _ _ us hl => match us, hl with | [_], _ => rfl⟩
  have D_L_refused : DefG P w K mg base CX0 4 "_law_refused" ["_law_thing", "_law_word"] (spRef K) := ⟨_, fd_L_refused, T.gl 35 "_law_refused" rfl, F_L_refused.kp, ok_ref F_L_refused T (T.gl 22 "accepts" rfl) F_accepts.kp FS bS, F_L_refused.bindsN fun _ _ _ _ _ _ us hl => match us, hl with | [_, _], _ => rfl⟩
  have D_L_right : DefG P w K mg base CX0 7 "_law_right" ["_law_source_here"] spRight := ⟨_, fd_L_right, T.gl 36 "_law_right" rfl, F_L_right.kp, ok_right F_L_right T D_L_plan D_L_pick D_L_acts D_L_all_words D_L_has D_L_refused mM FM bM mA FA bA mL FL bL mE FE bE (T.gl 22 "accepts" rfl) F_accepts.kp FS bS, F_L_right.bindsN fun _ _ _ _ _ _ us hl => match us, hl with | [_], _ => rfl⟩
  exact ok_law F T D_L_source D_L_right
end K67
open PySem PySem.W PySem.Calls PyProof.Rows
theorem PySem.Challenge.cw_letterfolds_k67_words_that_things_have_holds : PySem.Challenge.rw_letterfolds_k67_words_that_things_have.Holds := by
  w_on; o_law
  refine HandSHeadRun.head_any (r := K67.R) (q := K67.vw) (H := K67.hk) (ob := K67.ob) (M := 20000) (loose := K67.loose) (d := HandSHeadRun.topDef K67.R.prog 50) (kwd := []) K67.ob_eq
    (by kernel_rfl) (fun s => by kernel_rfl) K67.run (by kernel_rfl) (by kernel_rfl) (by kernel_rfl) (by rfl) (by first | assumption | decide +kernel) (by decide +kernel) ⟨rfl, rfl, rfl, rfl, rfl, by decide +kernel⟩ ?hw ?hc
  case hw => w_witness2
  case hc =>
    refine Lf.walk_ofG (l := PySem.Challenge.rw_letterfolds_k67_words_that_things_have) (n := 63) (k := 8) (x := "_law_script") (CX := L2.CX0) rfl (by decide) (by kernel_rfl) ⟨rfl, by decide, by decide⟩ ?F (fun _ _ _ _ z => z)
    intro w mg fa h Y G hmg0
    obtain ⟨K, KX, S⟩ := Y
    have hmg : mg ("law" : PySem.Str) = some (.ref fa) := by
      have e : (HandSHeadRun.topDef K67.R.prog 50).name = ("law" : PySem.Str) := by kernel_rfl
      rw [← e]
      exact hmg0
    obtain ⟨fd, hb, hF⟩ := K67.facts (P := PySem.Challenge.rw_letterfolds_k67_words_that_things_have.prog) (w := w) KX G hmg S.d S.m
    exact ⟨K, fd, K67.spLaw K, KX, hb, fun H a ns hl _ hS => ⟨a, ns, rfl, hS, hl, fun _ => rfl⟩, hF⟩
