import PyProof.Rows.All
import Wide.All
import OpenK.AllK
import Wide.FinOn
import HandS.Dict
import KE.KExcIs
import KE.KExcMore
import HandS.ForMost
import HandS.ForExc
import HandS.ExcInit
import HandS.ExcField
import HandS.ExcIs
import HandS.ExcValue
import HandS.IsInst
import HandS.HeadHook4
import HandS.Strs
import KE.GoesEnum
import HandS.Walk
import KE.KOpsOwn
import HandS.OwnEq
import HandS.Wide
import HandS.Style
import KE.KEqDeep
import HandS.Deep
import HandS.DictComp
import HandS.Lambda
import KE.GoesMore
import KE.GoesZip
import HandS.Conv
import HandS.WordsDict
import HandS.Text
import HandS.Replace
import KE.KRevSl
import PyProof.ReprRoads
import PyProof.ReprLen
import PyProof.Rows.FactsT3
import HandS.Defaults
import HandS.HotCalls
import HandS.TryMany
import PyProof.CallFns
import PyProof.ReprReads
import HandS.WideBits
import KE.KStateDown
import HandS.Head2
import HandS.HeadEnd
import PySem.Challenge.RW_letterfolds_k16_products_turned_about
set_option Elab.async false
set_option linter.all false
set_option maxRecDepth 100000
set_option maxHeartbeats 2000000
/-! A dict that tells the place of a number. -/
namespace Lf
open PySem PySem.Spec PyProof.Rows L2
def ik (x : Nat) : Key := Sum.inl ((x : Nat) : Int)
theorem ik_inj {x y : Nat} (h : ik x = ik y) : x = y := by
  have : ((x : Nat) : Int) = (y : Nat) := Sum.inl.inj h
  omega
def idF : Nat → List Nat → List (Key × V)
  | _, [] => []
  | k, x :: r => (ik x, .int (k : Nat)) :: idF (k + 1) r
abbrev idT (f : List Nat) : List (Key × V) := idF 0 f
theorem idF_len : ∀ {f : List Nat} {k : Nat}, (idF k f).length = f.length
  | [], _ => rfl
  | x :: r, k => by rw [idF, List.length_cons, idF_len, List.length_cons]
theorem idF_snoc {x : Nat} : ∀ {f : List Nat} {k : Nat}, idF k (f ++ [x]) = idF k f ++ [(ik x, .int (k + f.length : Nat))]
  | [], k => rfl
  | y :: r, k => by
    rw [List.cons_append, idF, idF, idF_snoc, List.cons_append, List.length_cons, show k + 1 + r.length = k + (r.length + 1) by omega]
theorem idF_none {x : Nat} : ∀ {f : List Nat} {k : Nat}, x ∉ f → valV (idF k f) (ik x) = none
  | [], _, _ => rfl
  | y :: r, k, h => by
    have hy : ¬ ik y = ik x := fun z => h (by rw [ik_inj z]; exact List.mem_cons_self)
    rw [idF, valV_neg (p := (ik y, V.int (k : Nat))) hy]
    exact idF_none fun z => h (List.mem_cons_of_mem _ z)
theorem idF_some {x : Nat} : ∀ {f : List Nat} {k i : Nat}, f.Nodup → f[i]? = some x → valV (idF k f) (ik x) = some (.int (k + i : Nat))
  | [], _, _, _, h => by simp at h
  | y :: r, k, 0, _, h => by
    cases h
    rw [idF, valV_pos (p := (ik x, V.int (k : Nat))) rfl]
    rfl
  | y :: r, k, i + 1, nd, h => by
    have hm : r[i]? = some x := h
    obtain ⟨h1, h2⟩ := List.nodup_cons.mp nd
    have hy : ¬ ik y = ik x := fun z => h1 (by rw [ik_inj z]; exact List.mem_of_getElem? hm)
    rw [idF, valV_neg (p := (ik y, V.int (k : Nat))) hy, idF_some h2 hm, show k + 1 + i = k + (i + 1) by omega]
theorem idT_put {x : Nat} {f : List Nat} (h : x ∉ f) : putK (idT f) (ik x) (.int (f.length : Nat)) = idT (f ++ [x]) := by
  rw [putK_new _ (idF_none h), idT, idF_snoc, Nat.zero_add]
end Lf

set_option Elab.async false
set_option linter.all false
set_option maxRecDepth 100000
set_option maxHeartbeats 2000000
/-! Maps of points, tables of monoids: plain mathematics. -/
namespace Mon
/-- first x, then y -/
def comp (x y : List Nat) : List Nat := x.map fun i => y.getD i 0
def Valid (n : Nat) (x : List Nat) : Prop := x.length = n ∧ ∀ i ∈ x, i < n
theorem getD_at {α : Type} {l : List α} {i : Nat} {d : α} (h : i < l.length) : l.getD i d = l[i] := by simp [List.getD, h]
theorem getD_of {α : Type} {l : List α} {i : Nat} {d v : α} (h : l[i]? = some v) : l.getD i d = v := by simp [List.getD, h]
theorem comp_valid {n : Nat} {x y : List Nat} (hx : Valid n x) (hy : Valid n y) : Valid n (comp x y) := by
  refine ⟨by rw [comp, List.length_map, hx.1], fun i hi => ?_⟩
  obtain ⟨j, hj, rfl⟩ := List.mem_map.mp hi
  rw [getD_at (by rw [hy.1]; exact hx.2 j hj)]
  exact hy.2 _ (List.getElem_mem _)
theorem comp_assoc {n : Nat} {x y z : List Nat} (hx : Valid n x) (hy : Valid n y) : comp (comp x y) z = comp x (comp y z) := by
  unfold comp
  rw [List.map_map]
  refine List.map_congr_left fun i hi => ?_
  have h : i < y.length := by rw [hy.1]; exact hx.2 i hi
  show z.getD (y.getD i 0) 0 = (y.map fun j => z.getD j 0).getD i 0
  rw [getD_at h, getD_at (l := y.map fun j => z.getD j 0) (by rw [List.length_map]; exact h), List.getElem_map]
def idm (n : Nat) : List Nat := List.range n
theorem idm_valid {n : Nat} : Valid n (idm n) := ⟨List.length_range, fun i hi => List.mem_range.mp hi⟩
theorem id_comp {n : Nat} {y : List Nat} (hy : Valid n y) : comp (idm n) y = y := by
  apply List.ext_getElem
  · rw [comp, List.length_map, idm, List.length_range, hy.1]
  · intro i h1 h2
    simp only [comp, idm, List.getElem_map, List.getElem_range]
    exact getD_at h2
theorem comp_id {n : Nat} {x : List Nat} (hx : Valid n x) : comp x (idm n) = x := by
  conv => rhs; rw [← List.map_id x]
  refine List.map_congr_left fun i hi => ?_
  have h : i < (idm n).length := by rw [idm, List.length_range]; exact hx.2 i hi
  rw [getD_at h]
  simp [idm]
/-! ### how many -/
theorem nodup_lt : ∀ (N : Nat) (l : List Nat), l.Nodup → (∀ x ∈ l, x < N) → l.length ≤ N
  | 0, l, _, h => by
    cases l with
    | nil => exact Nat.le_refl _
    | cons x r => exact absurd (h x List.mem_cons_self) (Nat.not_lt_zero _)
  | N + 1, l, nd, h => by
    by_cases hm : N ∈ l
    · have q := nodup_lt N (l.erase N) (nd.erase N) fun x hx => by
        have h1 := h x (List.mem_of_mem_erase hx)
        have h2 : x ≠ N := fun e => by
          rw [e] at hx
          exact (List.Nodup.not_mem_erase nd) hx
        omega
      rw [List.length_erase_of_mem hm] at q
      omega
    · have q := nodup_lt N l nd fun x hx => by
        have h1 := h x hx
        have h2 : x ≠ N := fun e => hm (e ▸ hx)
        omega
      omega
/-- the number that a list of digits tells -/
def enc (n : Nat) : List Nat → Nat
  | [] => 0
  | i :: r => i + n * enc n r
theorem enc_lt {n : Nat} : ∀ {x : List Nat}, (∀ i ∈ x, i < n) → enc n x < n ^ x.length
  | [], _ => by simp [enc]
  | i :: r, h => by
    have a := h i List.mem_cons_self
    have b := enc_lt (x := r) fun j hj => h j (List.mem_cons_of_mem _ hj)
    have c : n * (enc n r + 1) ≤ n * n ^ r.length := Nat.mul_le_mul_left _ b
    rw [Nat.mul_add, Nat.mul_one] at c
    simp only [enc, List.length_cons, Nat.pow_succ]
    rw [Nat.mul_comm (n ^ r.length) n]
    omega
theorem enc_inj {n : Nat} : ∀ {x y : List Nat}, x.length = y.length → (∀ i ∈ x, i < n) → (∀ i ∈ y, i < n) → enc n x = enc n y → x = y
  | [], [], _, _, _, _ => rfl
  | [], _ :: _, e, _, _, _ => by cases e
  | _ :: _, [], e, _, _, _ => by cases e
  | i :: r, j :: q, e, hx, hy, h => by
    have a := hx i List.mem_cons_self
    have b := hy j List.mem_cons_self
    simp only [enc] at h
    have m1 : (i + n * enc n r) % n = i := by rw [Nat.add_mul_mod_self_left, Nat.mod_eq_of_lt a]
    have m2 : (j + n * enc n q) % n = j := by rw [Nat.add_mul_mod_self_left, Nat.mod_eq_of_lt b]
    have e1 : i = j := by rw [← m1, ← m2, h]
    subst e1
    have e2 : enc n r = enc n q := by
      have z : n * enc n r = n * enc n q := by omega
      exact Nat.eq_of_mul_eq_mul_left (by omega) z
    rw [enc_inj (by simpa using e) (fun k hk => hx k (List.mem_cons_of_mem _ hk)) (fun k hk => hy k (List.mem_cons_of_mem _ hk)) e2]
theorem maps_few {n : Nat} {f : List (List Nat)} (nd : f.Nodup) (v : ∀ x ∈ f, Valid n x) : f.length ≤ n ^ n := by
  have q := nodup_lt (n ^ n) (f.map (enc n)) ?_ ?_
  · rwa [List.length_map] at q
  · rw [List.Nodup, List.pairwise_map]
    refine nd.imp_of_mem fun {a b} ha hb ne e => ne ?_
    exact enc_inj (by rw [(v a ha).1, (v b hb).1]) (v a ha).2 (v b hb).2 e
  · intro x hx
    obtain ⟨y, hy, rfl⟩ := List.mem_map.mp hx
    have := enc_lt (v y hy).2
    rwa [(v y hy).1] at this
/-! ### the order in which numbers are met -/
def madeRow (i : Nat) : Nat → List Nat → List (Nat × Nat) → Option (List (Nat × Nat))
  | _, [], m => some m
  | c, t :: r, m => if m.length + 1 < t then none else if t = m.length + 1 then madeRow i (c + 1) r (m ++ [(i, c)]) else madeRow i (c + 1) r m
def madeTab : Nat → List (List Nat) → List (Nat × Nat) → Option (List (Nat × Nat))
  | _, [], m => some m
  | i, row :: rest, m => if m.length + 1 ≤ i then none else (madeRow i 0 row m).bind (madeTab (i + 1) rest)
theorem madeRow_snoc {i t : Nat} : ∀ {row : List Nat} {c : Nat} {m : List (Nat × Nat)}, madeRow i c (row ++ [t]) m = (madeRow i c row m).bind fun m' => if m'.length + 1 < t then none else if t = m'.length + 1 then some (m' ++ [(i, c + row.length)]) else some m'
  | [], c, m => by simp [madeRow]
  | u :: r, c, m => by
    simp only [List.cons_append, madeRow]
    split
    · rfl
    · split
      · rw [madeRow_snoc, List.length_cons, Nat.add_assoc, Nat.add_comm 1]
      · rw [madeRow_snoc, List.length_cons, Nat.add_assoc, Nat.add_comm 1]
theorem madeTab_snoc {row : List Nat} : ∀ {rows : List (List Nat)} {i : Nat} {m : List (Nat × Nat)}, madeTab i (rows ++ [row]) m = (madeTab i rows m).bind fun m' => if m'.length + 1 ≤ i + rows.length then none else madeRow (i + rows.length) 0 row m'
  | [], i, m => by
    simp only [List.nil_append, madeTab, List.length_nil, Nat.add_zero, Option.bind_some]
    split
    · rfl
    · cases madeRow i 0 row m <;> rfl
  | u :: r, i, m => by
    simp only [List.cons_append, madeTab]
    split
    · rfl
    · cases h : madeRow i 0 u m with
      | none => rfl
      | some m' =>
        simp only [Option.bind_some]
        rw [madeTab_snoc, List.length_cons]
        rw [show i + 1 + r.length = i + (r.length + 1) by omega]
/-- what was met: each number at a place of the table before it -/
theorem madeRow_ok {i : Nat} : ∀ {row : List Nat} {c : Nat} {m m' : List (Nat × Nat)}, madeRow i c row m = some m' → ∃ e, m' = m ++ e ∧ ∀ k p, e[k]? = some p → p.1 = i ∧ c ≤ p.2 ∧ row[p.2 - c]? = some (m.length + k + 1)
  | [], c, m, m', h => by
    simp only [madeRow, Option.some.injEq] at h
    exact ⟨[], by simp [h], fun k p hp => by simp at hp⟩
  | t :: r, c, m, m', h => by
    simp only [madeRow] at h
    split at h
    · cases h
    · split at h
      · rename_i ht
        obtain ⟨e, he, q⟩ := madeRow_ok h
        refine ⟨(i, c) :: e, by rw [he, List.append_assoc]; rfl, fun k p hp => ?_⟩
        cases k with
        | zero =>
          have := Option.some.inj hp
          subst this
          refine ⟨rfl, Nat.le_refl _, ?_⟩
          rw [Nat.sub_self]
          simp [ht]
        | succ k =>
          obtain ⟨q1, q2, q3⟩ := q k p (by simpa using hp)
          refine ⟨q1, by omega, ?_⟩
          rw [show p.2 - c = (p.2 - (c + 1)) + 1 by omega, List.getElem?_cons_succ, q3, List.length_append]
          congr 1
          show m.length + 1 + k + 1 = m.length + (k + 1) + 1
          omega
      · obtain ⟨e, he, q⟩ := madeRow_ok h
        refine ⟨e, he, fun k p hp => ?_⟩
        obtain ⟨q1, q2, q3⟩ := q k p hp
        refine ⟨q1, by omega, ?_⟩
        rw [show p.2 - c = (p.2 - (c + 1)) + 1 by omega, List.getElem?_cons_succ, q3]
theorem madeTab_ok : ∀ {rows : List (List Nat)} {i : Nat} {m m' : List (Nat × Nat)}, madeTab i rows m = some m' → ∃ e, m' = m ++ e ∧ ∀ k p, e[k]? = some p → i ≤ p.1 ∧ p.1 < m.length + k + 1 ∧ ∃ row, rows[p.1 - i]? = some row ∧ row[p.2]? = some (m.length + k + 1)
  | [], i, m, m', h => by
    simp only [madeTab, Option.some.injEq] at h
    exact ⟨[], by simp [h], fun k p hp => by simp at hp⟩
  | u :: r, i, m, m', h => by
    simp only [madeTab] at h
    split at h
    · cases h
    · rename_i hi
      cases h1 : madeRow i 0 u m with
      | none => rw [h1] at h; cases h
      | some m1 =>
        rw [h1, Option.bind_some] at h
        obtain ⟨e1, he1, q1⟩ := madeRow_ok h1
        obtain ⟨e2, he2, q2⟩ := madeTab_ok h
        refine ⟨e1 ++ e2, by rw [he2, he1, List.append_assoc], fun k p hp => ?_⟩
        by_cases hk : k < e1.length
        · rw [List.getElem?_append_left hk] at hp
          obtain ⟨a, b, c⟩ := q1 k p hp
          refine ⟨by omega, by omega, u, by rw [a, Nat.sub_self]; rfl, ?_⟩
          rwa [Nat.sub_zero] at c
        · rw [List.getElem?_append_right (by omega)] at hp
          obtain ⟨a, b, row, c, d⟩ := q2 _ p hp
          have le : m1.length = m.length + e1.length := by rw [he1, List.length_append]
          refine ⟨by omega, by omega, row, ?_, ?_⟩
          · rw [show p.1 - i = (p.1 - (i + 1)) + 1 by omega, List.getElem?_cons_succ, c]
          · rw [d, le]
            congr 1
            omega
theorem madeTab_app {b : List (List Nat)} : ∀ {a : List (List Nat)} {i : Nat} {m : List (Nat × Nat)}, madeTab i (a ++ b) m = (madeTab i a m).bind (madeTab (i + a.length) b)
  | [], i, m => by simp [madeTab]
  | u :: r, i, m => by
    simp only [List.cons_append, madeTab]
    split
    · rfl
    · cases madeRow i 0 u m with
      | none => rfl
      | some m' =>
        simp only [Option.bind_some]
        rw [madeTab_app, List.length_cons, show i + 1 + r.length = i + (r.length + 1) by omega]
theorem take_cons {α : Type} {l : List α} {i : Nat} {x : α} (h : l[i]? = some x) : l = l.take i ++ x :: l.drop (i + 1) ∧ l.take (i + 1) = l.take i ++ [x] ∧ (l.take i).length = i := by
  obtain ⟨hi, e⟩ := List.getElem?_eq_some_iff.mp h
  refine ⟨?_, ?_, by rw [List.length_take]; omega⟩
  · rw [← e, ← List.drop_eq_getElem_cons hi, List.take_append_drop]
  · rw [← e, List.take_succ_eq_append_getElem hi]
theorem madeTab_at {rows : List (List Nat)} {i : Nat} {row : List Nat} {m : List (Nat × Nat)} (h : madeTab 0 rows [] = some m) (hr : rows[i]? = some row) :
    ∃ m', madeTab 0 (rows.take i) [] = some m' ∧ i < m'.length + 1 ∧ ∃ m'', madeRow i 0 row m' = some m'' ∧ madeTab 0 (rows.take (i + 1)) [] = some m'' := by
  obtain ⟨e1, e2, e3⟩ := take_cons hr
  rw [e1, madeTab_app, e3, Nat.zero_add] at h
  cases h1 : madeTab 0 (rows.take i) [] with
  | none => rw [h1] at h; cases h
  | some m' =>
    rw [h1, Option.bind_some] at h
    simp only [madeTab] at h
    split at h
    · cases h
    · rename_i hi
      cases h2 : madeRow i 0 row m' with
      | none => rw [h2] at h; cases h
      | some m'' =>
        refine ⟨m', rfl, by omega, m'', h2, ?_⟩
        rw [e2, madeTab_app, h1, e3, Nat.zero_add, Option.bind_some]
        simp only [madeTab]
        rw [if_neg hi, h2]
        rfl
theorem madeRow_app {i : Nat} {b : List Nat} : ∀ {a : List Nat} {c : Nat} {m : List (Nat × Nat)}, madeRow i c (a ++ b) m = (madeRow i c a m).bind (madeRow i (c + a.length) b)
  | [], c, m => by simp [madeRow]
  | u :: r, c, m => by
    simp only [List.cons_append, madeRow, List.length_cons]
    split
    · rfl
    · split
      · rw [madeRow_app, show c + 1 + r.length = c + (r.length + 1) by omega]
      · rw [madeRow_app, show c + 1 + r.length = c + (r.length + 1) by omega]
theorem madeRow_at {row : List Nat} {i c t : Nat} {m m2 : List (Nat × Nat)} (h : madeRow i 0 row m = some m2) (hr : row[c]? = some t) :
    ∃ m', madeRow i 0 (row.take c) m = some m' ∧ t ≤ m'.length + 1 ∧ madeRow i 0 (row.take (c + 1)) m = some (if t = m'.length + 1 then m' ++ [(i, c)] else m') := by
  obtain ⟨e1, e2, e3⟩ := take_cons hr
  rw [e1, madeRow_app, e3, Nat.zero_add] at h
  cases h1 : madeRow i 0 (row.take c) m with
  | none => rw [h1] at h; cases h
  | some m' =>
    rw [h1, Option.bind_some] at h
    simp only [madeRow] at h
    split at h
    · cases h
    · rename_i hi
      refine ⟨m', rfl, by omega, ?_⟩
      rw [e2, madeRow_app, h1, e3, Nat.zero_add, Option.bind_some]
      simp only [madeRow]
      rw [if_neg hi]
      split <;> rfl
theorem madeTab_lt {rows : List (List Nat)} {m : List (Nat × Nat)} (h : madeTab 0 rows [] = some m) {k : Nat} {p : Nat × Nat} (hp : m[k]? = some p) : p.1 < k + 1 ∧ ∃ row, rows[p.1]? = some row ∧ row[p.2]? = some (k + 1) := by
  obtain ⟨e, he, q⟩ := madeTab_ok h
  rw [List.nil_append] at he
  subst he
  obtain ⟨_, a, row, b, c⟩ := q k p hp
  refine ⟨by simpa using a, row, by simpa using b, by simpa using c⟩
/-! ### a table that maps act by -/
structure Tab (n : Nat) (gens found rows : List (List Nat)) : Prop where
  nd : found.Nodup
  val : ∀ x ∈ found, Valid n x
  gval : ∀ g ∈ gens, Valid n g
  head : found[0]? = some (idm n)
  len : rows.length = found.length
  wid : ∀ (i : Nat) row, rows[i]? = some row → row.length = gens.length
  ent : ∀ (i : Nat) row, rows[i]? = some row → ∀ (c t : Nat), row[c]? = some t → ∃ x g, found[i]? = some x ∧ gens[c]? = some g ∧ found[t]? = some (comp x g)
def leftStep (rows : List (List Nat)) (L : List (List Nat)) (p : Nat × Nat) : List (List Nat) := L ++ [(L.getD p.1 []).map fun x => (rows.getD x []).getD p.2 0]
def leftTab (rows : List (List Nat)) (made : List (Nat × Nat)) : List (List Nat) := made.foldl (leftStep rows) [rows.getD 0 []]
/-- row k of the left table tells what letters in front of element k are -/
def LeftOk (gens found : List (List Nat)) (k : Nat) (l : List Nat) : Prop := l.length = gens.length ∧ ∀ (a e : Nat), l[a]? = some e → ∃ g x, gens[a]? = some g ∧ found[k]? = some x ∧ found[e]? = some (comp g x)
theorem nodup_at {α : Type} {l : List α} (nd : l.Nodup) {i j : Nat} {x : α} (h1 : l[i]? = some x) (h2 : l[j]? = some x) : i = j := by
  obtain ⟨a, ha⟩ := List.getElem?_eq_some_iff.mp h1
  obtain ⟨b, hb⟩ := List.getElem?_eq_some_iff.mp h2
  have pw := List.pairwise_iff_getElem.mp nd
  rcases Nat.lt_trichotomy i j with h | h | h
  · exact absurd (ha.trans hb.symm) (pw i j a b h)
  · exact h
  · exact absurd (hb.trans ha.symm) (pw j i b a h)
section
variable {n : Nat} {gens found rows : List (List Nat)}
theorem Tab.at (T : Tab n gens found rows) {i : Nat} {x : List Nat} (h : found[i]? = some x) : ∃ row, rows[i]? = some row := by
  have := (List.getElem?_eq_some_iff.mp h).1
  exact ⟨_, List.getElem?_eq_getElem (by rw [T.len]; exact this)⟩
/-- the entry of row i at letter c -/
theorem Tab.get (T : Tab n gens found rows) {i c : Nat} {x g : List Nat} (h : found[i]? = some x) (hg : gens[c]? = some g) : found[(rows.getD i []).getD c 0]? = some (comp x g) := by
  obtain ⟨row, hr⟩ := T.at h
  have hc : c < row.length := by rw [T.wid i row hr]; exact (List.getElem?_eq_some_iff.mp hg).1
  obtain ⟨x', g', h1, h2, h3⟩ := T.ent i row hr c row[c] (List.getElem?_eq_getElem hc)
  rw [h] at h1
  rw [hg] at h2
  cases h1
  cases h2
  rw [getD_of hr, getD_at hc]
  exact h3
theorem left_len {made : List (Nat × Nat)} : (leftTab rows made).length = made.length + 1 := by
  unfold leftTab
  suffices h : ∀ (m : List (Nat × Nat)) (L : List (List Nat)), (m.foldl (leftStep rows) L).length = L.length + m.length by
    rw [h, List.length_singleton, Nat.add_comm]
  intro m
  induction m with
  | nil => intro L; simp
  | cons p r ih => intro L; rw [List.foldl_cons, ih, leftStep, List.length_append, List.length_singleton, List.length_cons]; omega
theorem left_snoc {made : List (Nat × Nat)} {p : Nat × Nat} : leftTab rows (made ++ [p]) = leftStep rows (leftTab rows made) p := by
  unfold leftTab
  rw [List.foldl_append]
  rfl
theorem left_ok (T : Tab n gens found rows) (hz : gens ≠ []) : ∀ (made : List (Nat × Nat)), (∀ k p, made[k]? = some p → p.1 < k + 1 ∧ ∃ row, rows[p.1]? = some row ∧ row[p.2]? = some (k + 1)) → ∀ k l, (leftTab rows made)[k]? = some l → LeftOk gens found k l := by
  intro made
  have base : ∀ l, rows.getD 0 [] = l → LeftOk gens found 0 l := fun l hl => by
    obtain ⟨row, hr⟩ := T.at T.head
    rw [getD_of hr] at hl
    subst hl
    refine ⟨T.wid 0 row hr, fun a e he => ?_⟩
    obtain ⟨x, g, h1, h2, h3⟩ := T.ent 0 row hr a e he
    rw [T.head] at h1
    cases h1
    have gv := T.gval g (List.mem_of_getElem? h2)
    refine ⟨g, idm n, h2, T.head, ?_⟩
    rw [comp_id gv, h3, id_comp gv]
  suffices h : ∀ (r : List (Nat × Nat)) (m : List (Nat × Nat)), (∀ k p, (m ++ r)[k]? = some p → p.1 < k + 1 ∧ ∃ row, rows[p.1]? = some row ∧ row[p.2]? = some (k + 1)) → (∀ k l, (leftTab rows m)[k]? = some l → LeftOk gens found k l) →
      ∀ k l, (leftTab rows (m ++ r))[k]? = some l → LeftOk gens found k l by
    intro hm
    have := h made [] (by simpa using hm) (fun k l hl => by
      unfold leftTab at hl
      cases k with
      | zero => exact base l (Option.some.inj hl)
      | succ k => simp at hl)
    simpa using this
  intro r
  induction r with
  | nil => intro m _ h; simpa using h
  | cons p r ih =>
    intro m hm h
    rw [List.append_cons]
    refine ih (m ++ [p]) (by rw [← List.append_cons]; exact hm) fun k l hl => ?_
    rw [left_snoc, leftStep] at hl
    by_cases hk : k < (leftTab rows m).length
    · rw [List.getElem?_append_left hk] at hl
      exact h k l hl
    · have hk2 : k = (leftTab rows m).length := by
        have := (List.getElem?_eq_some_iff.mp hl).1
        rw [List.length_append, List.length_singleton] at this
        omega
      rw [List.getElem?_append_right (by omega), hk2, Nat.sub_self] at hl
      have el := Option.some.inj hl
      have kl : k = m.length + 1 := by rw [hk2, left_len]
      obtain ⟨b1, row, hrow, hent⟩ := hm m.length p (by rw [List.getElem?_append_right (Nat.le_refl _), Nat.sub_self]; rfl)
      obtain ⟨xb, gp, hxb, hgp, hfk⟩ := T.ent p.1 row hrow p.2 _ hent
      have hb : p.1 < (leftTab rows m).length := by rw [left_len]; exact b1
      have hL := h p.1 ((leftTab rows m)[p.1]) (List.getElem?_eq_getElem hb)
      rw [getD_at hb] at el
      refine ⟨by rw [← el, List.length_map]; exact hL.1, fun a e he => ?_⟩
      rw [← el, List.getElem?_map] at he
      cases q : ((leftTab rows m)[p.1])[a]? with
      | none => rw [q] at he; cases he
      | some e0 =>
        rw [q] at he
        have ee := Option.some.inj he
        obtain ⟨g, x, h1, h2, h3⟩ := hL.2 a e0 q
        rw [hxb] at h2
        cases h2
        have z := T.get h3 hgp
        have gv := T.gval g (List.mem_of_getElem? h1)
        have xv := T.val xb (List.mem_of_getElem? hxb)
        refine ⟨g, comp xb gp, h1, by rw [kl]; exact hfk, ?_⟩
        rw [← ee, z, comp_assoc gv xv]
theorem prod_ok (T : Tab n gens found rows) (hz : gens ≠ []) {L : List (List Nat)} (hL : ∀ k l, L[k]? = some l → LeftOk gens found k l) {i c t : Nat} {row li lt : List Nat} (h1 : rows[i]? = some row) (h2 : row[c]? = some t) (h3 : L[i]? = some li) (h4 : L[t]? = some lt) :
    lt = li.map fun x => (rows.getD x []).getD c 0 := by
  obtain ⟨x, g, hx, hg, ht⟩ := T.ent i row h1 c t h2
  have a := hL i li h3
  have b := hL t lt h4
  apply List.ext_getElem
  · rw [List.length_map, a.1, b.1]
  · intro k k1 k2
    rw [List.length_map] at k2
    rw [List.getElem_map]
    obtain ⟨ga, y, e1, e2, e3⟩ := b.2 k lt[k] (List.getElem?_eq_getElem k1)
    obtain ⟨gb, z, e4, e5, e6⟩ := a.2 k li[k] (List.getElem?_eq_getElem k2)
    rw [e1] at e4
    cases e4
    rw [ht] at e2
    cases e2
    rw [hx] at e5
    cases e5
    have q := T.get e6 hg
    have gv := T.gval ga (List.mem_of_getElem? e1)
    have xv := T.val x (List.mem_of_getElem? hx)
    rw [comp_assoc gv xv] at q
    exact nodup_at T.nd e3 q
end
end Mon

set_option Elab.async false
set_option linter.all false
set_option maxRecDepth 100000
/-! What is reached from a row on, in the order of least words: pure. -/
namespace Lf.Reach
open Lf
def idx : List Nat → Nat → Nat
  | [], _ => 0
  | y :: r, x => if y = x then 0 else idx r x + 1
theorem idx_get : ∀ {l : List Nat} {x : Nat}, x ∈ l → l[idx l x]? = some x
  | y :: r, x, h => by
    unfold idx
    by_cases e : y = x
    · rw [if_pos e, e]; rfl
    · rw [if_neg e, List.getElem?_cons_succ]
      rcases List.mem_cons.mp h with z | z
      · exact absurd z.symm e
      · exact idx_get z
theorem idx_at {l : List Nat} {x i : Nat} (nd : l.Nodup) (h : l[i]? = some x) : idx l x = i := Mon.nodup_at nd (idx_get (List.mem_of_getElem? h)) h
theorem pre_get {l O : List Nat} {i x : Nat} (p : l <+: O) (h : l[i]? = some x) : O[i]? = some x := by
  obtain ⟨t, rfl⟩ := p
  rw [List.getElem?_append_left (List.getElem?_eq_some_iff.mp h).1]
  exact h
theorem idx_pre {l O : List Nat} {x : Nat} (nd : O.Nodup) (p : l <+: O) (h : x ∈ l) : idx O x = idx l x := idx_at nd (pre_get p (idx_get h))
theorem idx_lt {l : List Nat} {x : Nat} (h : x ∈ l) : idx l x < l.length := (List.getElem?_eq_some_iff.mp (idx_get h)).1
def put (l : List Nat) (e : Nat) : List Nat := if e ∈ l then l else l ++ [e]
def grow (l row : List Nat) : List Nat := row.foldl put l
theorem put_in {l : List Nat} {e : Nat} (h : e ∈ l) : put l e = l := if_pos h
theorem put_new {l : List Nat} {e : Nat} (h : e ∉ l) : put l e = l ++ [e] := if_neg h
theorem grow_cons {l row : List Nat} {e : Nat} : grow l (e :: row) = grow (put l e) row := rfl
theorem grow_snoc {l row : List Nat} {e : Nat} : grow l (row ++ [e]) = put (grow l row) e := by unfold grow; rw [List.foldl_append]; rfl
theorem put_pre {l : List Nat} {e : Nat} : l <+: put l e := by
  unfold put
  split
  · exact List.prefix_refl _
  · exact List.prefix_append _ _
theorem grow_pre : ∀ {row l : List Nat}, l <+: grow l row
  | [], l => List.prefix_refl _
  | e :: r, l => put_pre.trans (grow_pre (row := r))
theorem put_nd {l : List Nat} {e : Nat} (h : l.Nodup) : (put l e).Nodup := by
  by_cases z : e ∈ l
  · rw [put_in z]; exact h
  · rw [put_new z, List.nodup_append]
    exact ⟨h, List.nodup_cons.mpr ⟨fun y => (List.not_mem_nil y), List.nodup_nil⟩, fun a ha b hb => by rw [List.mem_singleton.mp hb]; intro y; exact z (y ▸ ha)⟩
theorem grow_nd : ∀ {row l : List Nat}, l.Nodup → (grow l row).Nodup
  | [], l, h => h
  | e :: r, l, h => grow_nd (row := r) (put_nd h)
theorem put_mem {l : List Nat} {e x : Nat} : x ∈ put l e ↔ x ∈ l ∨ x = e := by
  by_cases z : e ∈ l
  · rw [put_in z]
    exact ⟨.inl, fun h => h.elim id fun y => y ▸ z⟩
  · rw [put_new z, List.mem_append, List.mem_singleton]
theorem grow_mem : ∀ {row l : List Nat} {x : Nat}, x ∈ grow l row ↔ x ∈ l ∨ x ∈ row
  | [], l, x => by simp [grow]
  | e :: r, l, x => by rw [grow_cons, grow_mem, put_mem, List.mem_cons]; exact or_assoc
def known (rows : List (List Nat)) (f : Nat) : Nat → List Nat
  | 0 => [f]
  | k + 1 => match (known rows f k)[k]? with
    | some a => grow (known rows f k) (rows.getD a [])
    | none => known rows f k
def ord (rows : List (List Nat)) (f : Nat) : List Nat := known rows f rows.length
section
variable {rows : List (List Nat)} {f : Nat}
theorem known_at {k a : Nat} (h : (known rows f k)[k]? = some a) : known rows f (k + 1) = grow (known rows f k) (rows.getD a []) := by
  show (match (known rows f k)[k]? with | some a => _ | none => _) = _
  rw [h]
theorem known_off {k : Nat} (h : (known rows f k).length ≤ k) : known rows f (k + 1) = known rows f k := by
  show (match (known rows f k)[k]? with | some a => _ | none => _) = _
  rw [List.getElem?_eq_none h]
theorem known_pre1 {k : Nat} : known rows f k <+: known rows f (k + 1) := by
  by_cases h : (known rows f k).length ≤ k
  · rw [known_off h]; exact List.prefix_refl _
  · rw [known_at (List.getElem?_eq_getElem (by omega))]; exact grow_pre
theorem known_pre {k : Nat} : ∀ {j : Nat}, k ≤ j → known rows f k <+: known rows f j
  | 0, h => by rw [show k = 0 by omega]; exact List.prefix_refl _
  | j + 1, h => by
    by_cases e : k = j + 1
    · rw [e]; exact List.prefix_refl _
    · exact (known_pre (by omega)).trans known_pre1
theorem known_nd : ∀ {k : Nat}, (known rows f k).Nodup
  | 0 => List.nodup_cons.mpr ⟨fun y => (List.not_mem_nil y), List.nodup_nil⟩
  | k + 1 => by
    by_cases h : (known rows f k).length ≤ k
    · rw [known_off h]; exact known_nd
    · rw [known_at (List.getElem?_eq_getElem (by omega))]; exact grow_nd known_nd
theorem known_stop {k : Nat} (h : (known rows f k).length ≤ k) : ∀ {j : Nat}, k ≤ j → known rows f j = known rows f k
  | 0, e => by rw [show k = 0 by omega]
  | j + 1, e => by
    by_cases z : k = j + 1
    · rw [z]
    · have y := known_stop h (j := j) (by omega)
      rw [known_off (by rw [y]; omega), y]
theorem nd_len : ∀ {n : Nat} {l : List Nat}, l.Nodup → (∀ x ∈ l, x < n) → l.length ≤ n
  | 0, l, _, h => by
    cases l with
    | nil => exact Nat.le_refl _
    | cons x r => exact absurd (h x List.mem_cons_self) (Nat.not_lt_zero _)
  | n + 1, l, nd, h => by
    have q := nd_len (n := n) (l := l.erase n) (nd.erase n) fun x hx => by
      have a := h x (List.mem_of_mem_erase hx)
      have b : x ≠ n := ((List.Nodup.mem_erase_iff nd).mp hx).1
      omega
    have e : l.length ≤ (l.erase n).length + 1 := by
      rw [List.length_erase]
      split <;> omega
    omega
/-- rows of numbers of rows -/
structure Rf (rows : List (List Nat)) (f : Nat) : Prop where
  f : f < rows.length
  e : ∀ row ∈ rows, ∀ e ∈ row, e < rows.length
theorem Rf.row (R : Rf rows f) {a x : Nat} (h : x ∈ rows.getD a []) : x < rows.length := by
  by_cases z : a < rows.length
  · rw [Mon.getD_of (List.getElem?_eq_getElem z)] at h
    exact R.e _ (List.getElem_mem z) x h
  · rw [List.getD_eq_getElem?_getD, List.getElem?_eq_none (by omega)] at h
    cases h
theorem known_lt (R : Rf rows f) : ∀ {k x : Nat}, x ∈ known rows f k → x < rows.length
  | 0, x, h => by rw [List.mem_singleton.mp h]; exact R.f
  | k + 1, x, h => by
    by_cases z : (known rows f k).length ≤ k
    · rw [known_off z] at h; exact known_lt R h
    · rw [known_at (List.getElem?_eq_getElem (by omega))] at h
      rcases grow_mem.mp h with y | y
      · exact known_lt R y
      · exact R.row y
theorem ord_nd : (ord rows f).Nodup := known_nd
theorem ord_len (R : Rf rows f) : (ord rows f).length ≤ rows.length := nd_len ord_nd fun x hx => known_lt R hx
theorem ord_eq {k : Nat} (h : (known rows f k).length ≤ k) (e : k ≤ rows.length) : ord rows f = known rows f k := known_stop h e
theorem known_le (R : Rf rows f) {k : Nat} (h : k < (ord rows f).length) : k < (known rows f k).length := by
  have := ord_len R
  by_cases z : (known rows f k).length ≤ k
  · rw [ord_eq z (by omega)] at h
    exact h
  · omega
theorem known_ord (R : Rf rows f) {k : Nat} (h : k ≤ (ord rows f).length) : known rows f k <+: ord rows f := known_pre (Nat.le_trans h (ord_len R))
theorem known_row (R : Rf rows f) {k a : Nat} (h : (ord rows f)[k]? = some a) : (known rows f k)[k]? = some a ∧ known rows f (k + 1) = grow (known rows f k) (rows.getD a []) := by
  have hk := (List.getElem?_eq_some_iff.mp h).1
  have lt := known_le R hk
  have e := List.getElem?_eq_getElem lt
  have z := pre_get (known_ord R (Nat.le_of_lt hk)) e
  rw [h] at z
  rw [← z] at e
  exact ⟨e, known_at e⟩
theorem row_known (R : Rf rows f) {k a x : Nat} (h : (ord rows f)[k]? = some a) (hx : x ∈ rows.getD a []) : x ∈ known rows f (k + 1) := by
  rw [(known_row R h).2]
  exact grow_mem.mpr (.inr hx)
theorem row_ord (R : Rf rows f) {k a x : Nat} (h : (ord rows f)[k]? = some a) (hx : x ∈ rows.getD a []) : x ∈ ord rows f := (known_ord R (List.getElem?_eq_some_iff.mp h).1).subset (row_known R h hx)
theorem ord_known (R : Rf rows f) : ord rows f = known rows f (ord rows f).length := by
  have p := known_ord R (Nat.le_refl _)
  exact ord_eq p.length_le (ord_len R)
/-- the table of what is reached -/
def renum (rows : List (List Nat)) (f : Nat) : List (List Nat) := (ord rows f).map fun a => (rows.getD a []).map (idx (ord rows f))
theorem renum_len : (renum rows f).length = (ord rows f).length := List.length_map _
theorem grow_made {O : List Nat} (nd : O.Nodup) {i : Nat} : ∀ {row l : List Nat} {c : Nat} {m : List (Nat × Nat)}, grow l row <+: O → m.length + 1 = l.length → ∃ m', Mon.madeRow i c (row.map (idx O)) m = some m' ∧ m'.length + 1 = (grow l row).length
  | [], l, c, m, _, e => ⟨m, rfl, e⟩
  | x :: r, l, c, m, p, e => by
    rw [grow_cons] at p
    have pp : put l x <+: O := grow_pre.trans p
    rw [List.map_cons, Mon.madeRow, grow_cons]
    by_cases h : x ∈ l
    · rw [put_in h] at p pp ⊢
      have z := idx_pre nd pp h
      have y := idx_lt h
      rw [if_neg (by omega), if_neg (by omega)]
      exact grow_made nd p e
    · rw [put_new h] at p pp ⊢
      have z : idx O x = l.length := idx_at nd (pre_get pp (by rw [List.getElem?_append_right (Nat.le_refl _), Nat.sub_self]; rfl))
      rw [if_neg (by omega), if_pos (by omega)]
      exact grow_made nd p (by rw [List.length_append, List.length_append, List.length_singleton, List.length_singleton]; omega)
theorem renum_madeK (R : Rf rows f) : ∀ {k : Nat}, k ≤ (ord rows f).length → ∃ m, Mon.madeTab 0 ((renum rows f).take k) [] = some m ∧ m.length + 1 = (known rows f k).length
  | 0, _ => ⟨[], by rw [List.take_zero]; rfl, rfl⟩
  | k + 1, h => by
    obtain ⟨m, h1, h2⟩ := renum_madeK R (k := k) (by omega)
    have hk : k < (ord rows f).length := by omega
    have ha := List.getElem?_eq_getElem hk
    obtain ⟨_, q⟩ := known_row R ha
    have e : (renum rows f)[k]? = some ((rows.getD (ord rows f)[k] []).map (idx (ord rows f))) := by
      unfold renum
      rw [List.getElem?_map, ha]
      rfl
    obtain ⟨m', g1, g2⟩ := grow_made (O := ord rows f) ord_nd (i := k) (row := rows.getD (ord rows f)[k] []) (l := known rows f k) (c := 0) (m := m) (by rw [← q]; exact known_ord R h) h2
    have lk : k < (renum rows f).length := by rw [renum_len]; exact hk
    have ts : (renum rows f).take (k + 1) = (renum rows f).take k ++ [(rows.getD (ord rows f)[k] []).map (idx (ord rows f))] := by
      rw [List.take_succ, e]
      rfl
    refine ⟨m', ?_, by rw [q]; exact g2⟩
    have := known_le R hk
    rw [ts, Mon.madeTab_snoc, h1, Option.bind_some, List.length_take, Nat.min_eq_left (Nat.le_of_lt lk), Nat.zero_add, if_neg (by omega)]
    exact g1
theorem renum_made (R : Rf rows f) : ∃ m, Mon.madeTab 0 (renum rows f) [] = some m ∧ m.length + 1 = (renum rows f).length := by
  obtain ⟨m, a, b⟩ := renum_madeK R (Nat.le_refl (ord rows f).length)
  rw [← ord_known R] at b
  rw [← renum_len, List.take_length] at a
  exact ⟨m, a, by rw [renum_len]; exact b⟩
theorem renum_row (R : Rf rows f) {r : List Nat} (h : r ∈ renum rows f) : ∃ a, a < rows.length ∧ r.length = (rows.getD a []).length ∧ ∀ x ∈ r, x < (renum rows f).length := by
  obtain ⟨a, ha, rfl⟩ := List.mem_map.mp h
  refine ⟨a, known_lt R ha, List.length_map _, fun x hx => ?_⟩
  obtain ⟨y, hy, rfl⟩ := List.mem_map.mp hx
  obtain ⟨k, hk⟩ := List.getElem?_of_mem ha
  rw [renum_len]
  exact idx_lt (row_ord R hk hy)
theorem renum_pos : 0 < (renum rows f).length := by
  rw [renum_len]
  exact Nat.lt_of_lt_of_le (show 0 < [f].length from Nat.zero_lt_one) (known_pre (rows := rows) (f := f) (Nat.zero_le rows.length)).length_le
end
/-! ### a table in another order -/
theorem range_grow {i : Nat} : ∀ {row : List Nat} {c : Nat} {m m' : List (Nat × Nat)}, Mon.madeRow i c row m = some m' → grow (List.range (m.length + 1)) row = List.range (m'.length + 1)
  | [], c, m, m', h => by rw [Mon.madeRow] at h; cases h; rfl
  | x :: r, c, m, m', h => by
    rw [Mon.madeRow] at h
    rw [grow_cons]
    by_cases h1 : m.length + 1 < x
    · rw [if_pos h1] at h; cases h
    · rw [if_neg h1] at h
      by_cases h2 : x = m.length + 1
      · rw [if_pos h2] at h
        rw [put_new (by rw [List.mem_range]; omega), h2, ← List.range_succ]
        have := range_grow h
        rw [List.length_append, List.length_singleton] at this
        exact this
      · rw [if_neg h2] at h
        rw [put_in (by rw [List.mem_range]; omega)]
        exact range_grow h
theorem range_known {T : List (List Nat)} {m : List (Nat × Nat)} (h : Mon.madeTab 0 T [] = some m) : ∀ {k : Nat}, k ≤ T.length → ∃ m', Mon.madeTab 0 (T.take k) [] = some m' ∧ known T 0 k = List.range (m'.length + 1)
  | 0, _ => ⟨[], by rw [List.take_zero]; rfl, rfl⟩
  | k + 1, hk => by
    obtain ⟨m', h1, h2⟩ := range_known h (k := k) (by omega)
    have hr := List.getElem?_eq_getElem (show k < T.length by omega)
    obtain ⟨m0, e0, i0, m2, e2, e3⟩ := Mon.madeTab_at h hr
    rw [h1] at e0
    cases e0
    refine ⟨m2, e3, ?_⟩
    have : (known T 0 k)[k]? = some k := by rw [h2, List.getElem?_range (by omega)]
    rw [known_at this, h2, Mon.getD_of hr]
    exact range_grow e2
theorem known_table {T : List (List Nat)} {m : List (Nat × Nat)} (h : Mon.madeTab 0 T [] = some m) (lm : m.length + 1 = T.length) : known T 0 T.length = List.range T.length := by
  obtain ⟨m', a, b⟩ := range_known h (Nat.le_refl T.length)
  rw [List.take_length, h] at a
  cases a
  rw [b, lm]
theorem grow_map {nm : Nat → Nat} {N : Nat} (inj : ∀ i j, i < N → j < N → nm i = nm j → i = j) : ∀ {row l : List Nat}, (∀ x ∈ l, x < N) → (∀ x ∈ row, x < N) → grow (l.map nm) (row.map nm) = (grow l row).map nm
  | [], l, _, _ => rfl
  | x :: r, l, hl, hr => by
    rw [List.map_cons, grow_cons, grow_cons]
    have hx := hr x List.mem_cons_self
    have e : put (l.map nm) (nm x) = (put l x).map nm := by
      by_cases z : x ∈ l
      · rw [put_in z, put_in (List.mem_map_of_mem z)]
      · rw [put_new z, put_new fun y => ?_, List.map_append]
        · rfl
        · obtain ⟨w, hw, e⟩ := List.mem_map.mp y
          rw [inj w x (hl w hw) hx e] at hw
          exact z hw
    rw [e]
    refine grow_map inj (fun y hy => ?_) fun y hy => hr y (List.mem_cons_of_mem _ hy)
    rcases put_mem.mp hy with z | z
    · exact hl y z
    · rw [z]; exact hx
/-- rows that hold the table T, its row j at names j -/
structure Scat (T rows : List (List Nat)) (nm : Nat → Nat) : Prop where
  inj : ∀ i j, i < T.length → j < T.length → nm i = nm j → i = j
  row : ∀ j, j < T.length → rows.getD (nm j) [] = (T.getD j []).map nm
  len : T.length ≤ rows.length
  ent : ∀ row ∈ T, ∀ e ∈ row, e < T.length
  pos : 0 < T.length
section
variable {T rows : List (List Nat)} {nm : Nat → Nat}
theorem scat_known (S : Scat T rows nm) : ∀ {k : Nat}, known rows (nm 0) k = (known T 0 k).map nm
  | 0 => rfl
  | k + 1 => by
    have R : Rf T 0 := ⟨S.pos, S.ent⟩
    have ih := scat_known S (k := k)
    by_cases h : (known T 0 k).length ≤ k
    · rw [known_off h, known_off (by rw [ih, List.length_map]; exact h), ih]
    · have hk : k < (known T 0 k).length := by omega
      have e := List.getElem?_eq_getElem hk
      have lt := known_lt R (List.getElem_mem hk)
      rw [known_at e, known_at (show (known rows (nm 0) k)[k]? = some (nm (known T 0 k)[k]) by rw [ih, List.getElem?_map, e]; rfl), ih, S.row _ lt]
      exact grow_map S.inj (fun x hx => known_lt R hx) fun x hx => R.row hx
theorem scat_ord (S : Scat T rows nm) {m : List (Nat × Nat)} (h : Mon.madeTab 0 T [] = some m) (lm : m.length + 1 = T.length) : ord rows (nm 0) = (List.range T.length).map nm := by
  have e : known rows (nm 0) T.length = (List.range T.length).map nm := by rw [scat_known S, known_table h lm]
  rw [ord_eq (k := T.length) (by rw [e, List.length_map, List.length_range]; exact Nat.le_refl _) S.len, e]
theorem scat_renum (S : Scat T rows nm) {m : List (Nat × Nat)} (h : Mon.madeTab 0 T [] = some m) (lm : m.length + 1 = T.length) : renum rows (nm 0) = T := by
  have nd : ((List.range T.length).map nm).Nodup := by rw [← scat_ord S h lm]; exact ord_nd
  unfold renum
  rw [scat_ord S h lm]
  refine List.ext_getElem? fun j => ?_
  by_cases hj : j < T.length
  case neg => rw [List.getElem?_eq_none (by rw [List.length_map, List.length_map, List.length_range]; omega), List.getElem?_eq_none (by omega)]
  have hr := List.getElem?_eq_getElem hj
  rw [List.map_map, List.getElem?_map, List.getElem?_range hj]
  show some (List.map _ (rows.getD (nm j) [])) = _
  rw [S.row j hj, Mon.getD_of hr, List.map_map, hr]
  have : List.map (idx ((List.range T.length).map nm) ∘ nm) T[j] = List.map id T[j] := List.map_congr_left fun x hx => idx_at nd (show ((List.range T.length).map nm)[x]? = some (nm x) by
    have lx := S.ent _ (List.getElem_mem hj) x hx
    rw [List.getElem?_map, List.getElem?_range lx]
    rfl)
  rw [this, List.map_id]
end
end Lf.Reach

set_option Elab.async false
set_option linter.all false
set_option maxRecDepth 100000
set_option maxHeartbeats 4000000
/-! Facts of error classes. -/
namespace Lf
open PySem PySem.Spec PyProof.Rows L2
/-- what isinstance of an error of the class at C wants -/
structure IsC (K : PySem.W.Frag) (C : Addr) : Prop where
  cl : (PySem.W.clsIn K C).isSome = true
  ga : PySem.W.findIn K (.ref C) "__getattribute__" = some (some (.builtin "BaseException.__getattribute__"))
  gg : PySem.W.findIn K (.ref C) "__getattr__" = some none
  sb : PySem.W.subIn K (.ref C) (.type "BaseException") = some true
  ca : PySem.W.findIn K (.ref C) "__class__" = some (some (.builtin "object.__class__"))
  sg : PySem.W.specialIn K (.builtin "object.__class__") "__get__" = some (some (.builtin "getset_descriptor.__get__"))
  tk : PySem.W.takesIn K (.builtin "object.__class__") = some true
  ob : PySem.W.mroIn K C (.type "object") = some true
/-! ### the classes by one look at the written part -/
/-- an exception class over ValueError -/
def oexB (K : PySem.W.Frag) (C : Addr) : Bool := match K.lookup C with
  | some ⟨.type t, _, .cls cd, sl⟩ => (match cd.mro, sl.toList with
    | .ref D :: bm, [_, _, _, _, some (.builtin n), _] => decide (t = "type") && (decide (D = C) && (decide (n = "ValueError.__new__") && (!cd.hasDel && (cd.hasDict && PySem.HandSPX.refsVE bm))))
    | _, _ => false)
  | _ => false
theorem oexB_ok {K : PySem.W.Frag} {C : Addr} (h : oexB K C = true) : ∃ nm q N bs bm sn sub ab col dd k0 k1 k2 k3 k5,
    K.lookup C = some (excClassObj nm q C N bs bm true sn sub ab col dd k0 k1 k2 k3 k5 "ValueError.__new__") ∧ PySem.HandSPX.refsVE bm = true := by
  unfold oexB at h
  split at h
  · rename_i t dd cd sl lk
    split at h
    · rename_i D bm k0 k1 k2 k3 n k5 hm hs
      simp only [Bool.and_eq_true, decide_eq_true_eq, Bool.not_eq_true'] at h
      obtain ⟨rfl, rfl, rfl, h4, h5, h6⟩ := h
      obtain ⟨nm, bs, mro, ns, qn, hd, sn, sub, ab, col, del⟩ := cd
      dsimp only at hm h4 h5
      subst hm h4 h5
      obtain ⟨l⟩ := sl
      dsimp only at hs
      subst hs
      exact ⟨nm, qn, ns, bs, bm, sn, sub, ab, col, dd, k0, k1, k2, k3, k5, lk, h6⟩
    · cases h
  · cases h
def errB (K : PySem.W.Frag) (C : Addr) : Bool :=
  oexB K C && (decide (PySem.W.findIn K (.ref C) "__setattr__" = some (some (.builtin "object.__setattr__"))) && (decide (PySem.W.subIn K (.ref C) (.type "BaseException") = some true) &&
  (decide (PySem.W.typeIn K (.ref C) = some (.type "type")) && (PySem.W.keepIn K (.ref C) && (PySem.W.hasDictIn K C &&
  (decide (PySem.W.findIn K (.ref C) "__getattribute__" = some (some (.builtin "BaseException.__getattribute__"))) && (decide (PySem.W.findIn K (.ref C) "__getattr__" = some none) &&
  (decide (PySem.W.findIn K (.ref C) "__class__" = some (some (.builtin "object.__class__"))) && (decide (PySem.W.specialIn K (.builtin "object.__class__") "__get__" = some (some (.builtin "getset_descriptor.__get__"))) &&
  (decide (PySem.W.takesIn K (.builtin "object.__class__") = some true) && decide (PySem.W.mroIn K C (.type "object") = some true)))))))))))
structure ErrC (K : PySem.W.Frag) (C : Addr) : Prop where
  o : OexC K C
  x : XfC K C
  i : IsC K C
theorem errB_ok {K : PySem.W.Frag} {C : Addr} (h : errB K C = true) : ErrC K C := by
  unfold errB at h
  simp only [Bool.and_eq_true, decide_eq_true_eq] at h
  obtain ⟨h1, h2, h3, h4, h5, h6, h7, h8, h9, h10, h11, h12⟩ := h
  have hc : (PySem.W.clsIn K C).isSome = true := by
    obtain ⟨nm, q, N, bs, bm, sn, sub, ab, col, dd, k0, k1, k2, k3, k5, lk, _⟩ := oexB_ok h1
    unfold PySem.W.clsIn
    rw [lk] <;> rfl
  exact ⟨⟨oexB_ok h1, h2, h3, h4, h5⟩, ⟨h7, h8, h3, h6⟩, ⟨hc, h7, h8, h3, h9, h10, h11, h12⟩⟩
end Lf

set_option Elab.async false
set_option linter.all false
set_option maxRecDepth 100000
set_option maxHeartbeats 4000000
/-! Errors of the program's own as values: made, read, asked, told. -/
namespace Lf
open PySem PySem.Spec PyProof.Rows L2

/-! ### made -/
/-- C(e, ..) as a value, C's own __init__ keeping sp -/
def tNew (C : Addr) (sp : Sp) (ta : TA) : TE := fun σ H Q => ta σ H fun vs H1 =>
  vs.length ≤ 1000 ∧ ∀ a, H1 a = none → sp (.ref a :: vs) (upd H1 a (exo a C none)) (fun v H2 => v = .non ∧ Q (.ref a) H2) E0
section
variable {X : Cx} {CX : CXT} {x : Str} {C fI : Addr} {k : Nat} {fd : FuncData} {ps : List Str} {sp : Sp} {e : Expr} {es : List Expr} {ta : TA} {p pos : Pos}
theorem pe_new (T : OexC X.K C) (iC : PySem.W.findIn X.K (.ref C) "__init__" = some (some (.ref fI)))
    (tI : PySem.W.typeIn X.K (.ref fI) = some (.type "function"))
    (F1 : FnOk X.prog X.w X.K X.mg X.base CX k fI fd ps sp) (hr : Room (k + 1) X.A) (hb : Binds X.K fd ps [])
    (hx : Passes CX X E0) (hg : Gl X x) (hm : X.mg x = some (.ref C)) (ha : PA X (e :: es) ta)
    (hdb : (x == ("__debug__" : Str)) = false := by decide +kernel)
    (he : starEach (e :: es) X.env = (false, eval e X.env) :: starEach es X.env := by rfl)
    (hpl : (backTo pos (starEach es X.env)).any (·.1) = false := by rfl) :
    PE X (.Call (.Name x p) (e :: es) [] pos) (tNew C sp ta) := by
  refine ⟨fun pins s σ H Q I h => ?_⟩
  obtain ⟨nm, q, N, bs, bm, sn, sub, ab, col, dd, k0, k1, k2, k3, k5, hC, hbm⟩ := T.cls
  refine wpAny_Call_Name_kw (ld_glob I hg hm ?_ hdb)
  refine PySem.W.callWith_K (h₀ := X.base) I.ok.mod.kin T.kC
    (thn (ha.run pos pins s σ H _ I h) fun us s1 hh => ?_) he hpl
  obtain ⟨vs, H1, I1, r1, hz, q1⟩ := hh
  refine ⟨I1.kIn, ?_⟩
  show wpAny _ _ (call (.ref C) us) _ _ _
  obtain ⟨hp, g, dr, tk, os⟩ := s1
  let a := hp.objs.size + 1
  have hsz : hp.objs.size ≤ a := Nat.le_succ _
  have hq := q1 a (I1.hok.fresh hsz)
  let hp' := (hp.push (PySem.W.kdv_tup us)).push (PySem.HandSPX.excO C hp.objs.size)
  have kk : ∀ b o, hp.get? b = some o → hp'.get? b = some o := fun b o z =>
    Heap.get?_push_of_some _ (Heap.get?_push_of_some _ z)
  have hget : ((hp.push (PySem.W.kdv_tup us)).push (PySem.HandSPX.excO C hp.objs.size)).get? (hp.objs.size + 1) =
    some (PySem.HandSPX.excO C hp.objs.size) := by heap_get
  have I2 : Inv X pins σ (upd H1 a (exo a C none)) ⟨hp', g, dr, tk, os⟩ :=
    I1.laid (t' := tk) (a := a) (o := exo a C none) (h' := hp') kk hsz (exo_ok (show hp'.get? a = _ from hget))
  have r2 : Vals (V.ref a :: vs) (Value.ref a :: us) := .cons rfl r1
  have hl : (Value.ref a :: us).length = ps.length := by
    have z := r2.length
    rw [F1.len _ _ _ _ hq] at z
    exact z.symm
  have hus : us.length ≤ sizeLine := by
    rw [← Paired.length r1, sizeLine_eq]
    omega
  have hb2 := hb ⟨hp', g, dr, tk, os⟩ (Value.ref a :: us) I2.kIn (by simpa using hl)
  rw [List.append_nil] at hb2
  refine wpAny_call (PySem.HandSPX.call_own F.excBase_ValueError (fun Y => PySem.HandSPX.refsVE_contains Y bm hbm) (I1.kIn _ _ hC)
    (PySem.W.looks_findIn I1.kIn iC) (fun self => PySem.W.bind_fn I1.kIn self tI) hus
    (codeAny_mono (F1.run _ X.stack _ _ ⟨Value.ref a :: us, []⟩ (Value.ref a :: us) _ _ E0 (hr.make C us []) (I2.env0.make C us []) hb2 r2 hq) fun r s' hq' => ?_))
  cases r with
  | error er => exact hx pins σ _ _ er s' I2 hq'
  | ok fl =>
    cases fl with
    | ret u =>
      obtain ⟨v, H2, os2, bare2, un2, hok2, rv, ev, q2⟩ := hq'
      subst ev
      exact ⟨rv, .ref a, H2, I2.call' (ch := []) os2 un2 hok2 bare2 (fun b z => nomatch z), rfl, q2⟩
    | next => exact False.elim hq'
    | brk => exact False.elim hq'
    | cont => exact False.elim hq'
end

/-! ### an error that stands -/
/-- at a an error of the class at C: its dict d, if it has one -/
def XAt (H : Hp) (a C : Addr) (d : Option Addr) : Prop := H a = some (exo a C d) ∨ (d = none ∧ H a = some (ExO (.ref C) a))
theorem XAt.obj {X : Cx} {pins : List (Addr × Obj)} {σ : L2.St} {H : Hp} {s : Shared} {a C : Addr} {d : Option Addr} (I : Inv X pins σ H s) (h : XAt H a C d) :
    ∃ oe vs, s.heap.get? a = some oe ∧ Zc (.ref C) d oe ∧ oe.data = .fields vs := by
  rcases h with h | ⟨rfl, h⟩
  · obtain ⟨t1, ho⟩ := exo_at I.hok h
    exact ⟨_, _, ho, ⟨rfl, rfl⟩, rfl⟩
  · obtain ⟨⟨oe, vs, ho, hz, hd, _⟩, _, _⟩ := I.hok a _ h
    exact ⟨oe, vs, ho, hz, hd⟩
theorem XAt.mono {H H' : Hp} {a C : Addr} {d : Option Addr} (h : XAt H a C d) (e : Same H H') : XAt H' a C d := by
  rcases h with h | ⟨z, h⟩
  · exact .inl (e _ _ h)
  · exact .inr ⟨z, e _ _ h⟩

/-! ### a field -/
def tXo (K : PySem.W.Frag) (f : Str) (te : TE) : TE := fun σ H Q => te σ H fun x H1 => ∃ (a C d : Addr) (fs : List (Str × V)) (v : V),
  x = .ref a ∧ XfC K C ∧ PySem.W.findIn K (.ref C) f = some none ∧ XAt H1 a C (some d) ∧ H1 d = some (exd d fs) ∧ fs.lookup f = some v ∧ Q v H1
theorem pe_xo {X : Cx} {e : Expr} {te : TE} {pos : Pos} {n : Str} (he : PE X e te)
    (hb : attributeBase e n X.env (eval e X.env) = eval e X.env := by rfl) : PE X (.Attribute e n pos) (tXo X.K n te) := by
  refine ⟨fun pins s σ H Q I h => ?_⟩
  refine attr_of hb (thn (he.run pins s σ H _ I h) fun u s1 hh => ?_)
  obtain ⟨x, H1, I1, rx, a, C, d, fs, v, ex, T, hno, ea, ed, l, q⟩ := hh
  subst ex
  obtain rfl : u = Value.ref a := rx
  obtain ⟨oe, vs, ho, hz, hd⟩ := ea.obj I1
  obtain ⟨mA, hns, hr⟩ := exd_at I1.hok ed
  obtain ⟨od, ho2, hl⟩ := lookIn_ns hns
  obtain ⟨u, hu, ru⟩ := RelO.some_of (v := v) (o := mA n) (by rw [← l]; exact hr n)
  have J : PySem.W.InstAt s1.heap a oe C (some od) := ⟨ho, hz.1, by unfold PySem.W.notCls; rw [hd] <;> rfl, by rw [hz.2]; exact ho2⟩
  exact HandSPX.exc_get I1.kIn J T.ga T.gg T.exC (PySem.W.findObj_own T.hdC hno rfl (by rw [hl, hu])) (handed_of ru)
    ⟨v, H1, I1.tok _, ru, q⟩

/-! ### isinstance -/
/-- its dict, if it has one, is an error's -/
def XDict (H : Hp) (d : Option Addr) : Prop := ∀ dx, d = some dx → ∃ fs, H dx = some (exd dx fs)
theorem XAt.inst {X : Cx} {pins : List (Addr × Obj)} {σ : L2.St} {H : Hp} {s : Shared} {a C : Addr} {d : Option Addr} (I : Inv X pins σ H s) (h : XAt H a C d) (hd : XDict H d) :
    ∃ ox od, PySem.W.InstAt s.heap a ox C od := by
  obtain ⟨oe, vs, ho, hz, hv⟩ := h.obj I
  have nc : PySem.W.notCls oe = true := by unfold PySem.W.notCls; rw [hv] <;> rfl
  cases d with
  | none => exact ⟨oe, none, ho, hz.1, nc, by rw [hz.2]; trivial⟩
  | some dx =>
    obtain ⟨fs, e⟩ := hd dx rfl
    obtain ⟨mA, hns, _⟩ := exd_at I.hok e
    obtain ⟨od, ho2, _⟩ := lookIn_ns hns
    exact ⟨oe, some od, ho, hz.1, nc, by rw [hz.2]; exact ho2⟩
def rIsX (K : PySem.W.Frag) : List V → Hp → VK → Prop := fun xs H Q => ∃ (a C : Addr) (d : Option Addr) (c : V) (cv : Value) (b : Bool),
  xs = [.ref a, c] ∧ ClsV c cv ∧ IsC K C ∧ XAt H a C d ∧ XDict H d ∧ PySem.W.kitOne K (.ref C) cv = some b ∧ Q (.bl b) H
theorem call_isX {X : Cx} : CallR X (.builtin "isinstance") (rIsX X.K) := by
  intro pins s σ H xs us Q I r h
  obtain ⟨a, C, d, c, cv, b, rfl, k, T, ha, hd, e, q⟩ := h
  obtain ⟨u1, u2, rfl, r1, r2⟩ := vals2 r
  obtain rfl := k.eq r2
  obtain rfl : u1 = Value.ref a := r1
  obtain ⟨ox, od, J⟩ := ha.inst I hd
  exact PySem.W.kia_one (PySem.W.kitx_exc (od := od) T.cl T.ga T.gg T.sb T.ca T.sg T.tk T.ob) I.kIn J e (fun z => nomatch z)
    fun tk => ⟨.bl b, H, I.tok tk, rfl, q⟩
def rIsXT (K : PySem.W.Frag) : List V → Hp → VK → Prop := fun xs H Q => ∃ (a C : Addr) (d : Option Addr) (tp : Addr) (cs : List V) (us : List Value) (b : Bool),
  xs = [.ref a, .ref tp] ∧ H tp = some (.tup cs) ∧ Paired ClsV cs us ∧ IsC K C ∧ XAt H a C d ∧ XDict H d ∧ PySem.W.kitAny K (.ref C) us = some b ∧ Q (.bl b) H
theorem call_isXT {X : Cx} : CallR X (.builtin "isinstance") (rIsXT X.K) := by
  intro pins s σ H xs us Q I r h
  obtain ⟨a, C, d, tp, cs, ws, b, rfl, htp, k, T, ha, hd, e, q⟩ := h
  obtain ⟨u1, u2, rfl, r1, r2⟩ := vals2 r
  obtain rfl : u1 = Value.ref a := r1
  obtain rfl : u2 = Value.ref tp := r2
  obtain ⟨ox, od, J⟩ := ha.inst I hd
  obtain ⟨_, its, rv, ⟨oc, dd, dt, sl⟩, h1, h2, n, h3⟩ := (show ObjOk X.prog X.w H s.heap tp (.tup cs) from I.hok tp _ htp)
  obtain rfl := ClsV.all k rv
  dsimp only at h2 h3
  subst h2 h3
  exact PySem.W.kia_tup (PySem.W.kitx_exc (od := od) T.cl T.ga T.gg T.sb T.ca T.sg T.tk T.ob) I.kIn J h1 e (fun z => nomatch z)
    fun tk => ⟨.bl b, H, I.tok tk, rfl, q⟩

/-! ### told() -/
/-- e.m() of an error e, by what stands of its class -/
def tTold (X : Cx) (m : Str) (te : TE) : TE := fun σ H Q => te σ H fun x H1 => ∃ (a C f : Addr) (d : Option Addr) (fd : FuncData) (sp : Sp),
  x = .ref a ∧ IsC X.K C ∧ Meth X.K C m f ∧ XAt H1 a C d ∧ (∀ dx, d = some dx → ∃ fs, H1 dx = some (exd dx fs) ∧ fs.lookup m = none) ∧
    FnOk X.prog X.w X.K X.mg X.base CX0 1 f fd ["self"] sp ∧ Binds X.K fd ["self"] [] ∧ sp [.ref a] H1 Q E0
theorem pe_told {X : Cx} {o : Expr} {m : Str} {te : TE} {pos apos : Pos} {pl : Sem Bool} (he : PE X o te) (hr : Room 1 X.A)
    (ht : eval (.Call (.Attribute o m apos) [] [] pos) X.env = (do
      let ov ← eval o X.env
      standAt apos.atName
      let (f, first) ← holding [ov] (getMethod ov m pl)
      callWith pos f first (backTo pos (starEach [] X.env)) (backToKw pos (keywordEach [] X.env))) := by rfl) :
    PE X (.Call (.Attribute o m apos) [] [] pos) (tTold X m te) := by
  refine ⟨fun pins s σ H Q I h => ?_⟩
  refine PySem.W.methodCall_KW (pl := pl) (thn (he.run pins s σ H _ I h) fun u s1 hh => ?_) ht
  obtain ⟨x, H1, I1, rx, a, C, f, d, fd, sp, rfl, T, M, ha, hd, FO, hb, q⟩ := hh
  obtain rfl : u = Value.ref a := rx
  obtain ⟨mm, fr⟩ := I1.fr
  obtain ⟨oe, vs, ho, hz, hv⟩ := ha.obj I1
  have nc : PySem.W.notCls oe = true := by unfold PySem.W.notCls; rw [hv] <;> rfl
  have go : wpAny (model X.prog X.w) X.A (callWith pos (Value.ref f) [Value.ref a] (backTo pos (starEach [] X.env)) []) (EP X pins σ Q) X.xe s1 :=
    PySem.W.callWith_K0 (first := [.ref a]) I1.kIn M.kp (run_fn (us := [.ref a]) (vs := [.ref a]) FO hr hb .nil pass0 I1 (.cons rfl .nil) q)
  cases d with
  | none =>
    have J : PySem.W.InstAt s1.heap a oe C none := ⟨ho, hz.1, nc, by rw [hz.2]; trivial⟩
    exact PySem.W.method_exc fr I1.ok.mod.kin J T.ga T.gg M.at_ M.fn rfl go
  | some dx =>
    obtain ⟨fs, e, hl⟩ := hd dx rfl
    obtain ⟨mA, hns, rel⟩ := exd_at I1.hok e
    obtain ⟨od, ho2, hk⟩ := lookIn_ns hns
    have J : PySem.W.InstAt s1.heap a oe C (some od) := ⟨ho, hz.1, nc, by rw [hz.2]; exact ho2⟩
    have hm : mA m = none := by
      have z := rel m
      rw [hl] at z
      cases y : mA m with
      | none => rfl
      | some v => rw [y] at z; exact z.elim
    exact PySem.W.method_exc fr I1.ok.mod.kin J T.ga T.gg M.at_ M.fn (by show (PySem.W.lookIn m od).map _ = _; rw [hk, hm]; rfl) go

/-! ### made without own __init__, of nothing -/
theorem pe_bare {X : Cx} {C : Addr} {bmB : List Value} {B newId initId : String} {x : Str} {p pos : Pos} (F : ExcBaseFacts B newId initId bmB)
    (q : PySem.W.excIn X.K C bmB newId = true) (gC : X.mg x = some (.ref C)) (kC : PySem.W.keepIn X.K (.ref C) = true) (hg : Gl X x)
    (hdb : (x == ("__debug__" : Str)) = false := by decide +kernel) :
    PE X (.Call (.Name x p) [] [] pos) (fun _ H Q => ∀ a, H a = none → Q (.ref a) (upd H a (ExO (.ref C) a))) := by
  refine ⟨fun pins s σ H Q I h => ?_⟩
  refine wpAny_Call_Name_kw (ld_glob I hg gC ?_ hdb)
  refine PySem.W.callWith_K0 I.kIn kC ?_
  show wpAny _ _ (call (.ref C) []) _ _ _
  obtain ⟨bm, N, nm, qn, bs, hdct, sn, sub, ab, col, dd, k0, k1, k2, k3, k5, mN, hC, hN, hni, T⟩ := exc_obj I.kIn q
  refine wpAny_call_exc_subT F T hC hN hni (fun h' a hm => ?_) (Nat.zero_le _)
  have hn : H a = none := I.hok.gone hm.new
  obtain ⟨t, ht, _, _⟩ := hm.there
  exact ⟨.ref a, _, I.laidN hm.keeps hm.new hn (exO_ok ht ⟨rfl, rfl⟩ rfl rfl rfl (show 4 < 6 by decide)), rfl, h a hn⟩

/-! ### by a weaker reading -/
theorem PE.imp {X : Cx} {e : Expr} {t t' : TE} (h : PE X e t) (f : ∀ σ H Q, t' σ H Q → t σ H Q) : PE X e t' := ⟨fun pins s σ H Q I q => h.run pins s σ H Q I (f σ H Q q)⟩
theorem PSs.imp {X : Cx} {e : List Stmt} {t t' : TS} (h : PSs X e t) (f : ∀ D σ H, t' D σ H → t D σ H) : PSs X e t' := ⟨fun pins s σ H D I q => h.run pins s σ H D I (f D σ H q)⟩
/-- a reading that may be weakened -/
def up (t : TE) : TE := fun σ H Q => ∃ Q0, t σ H Q0 ∧ ∀ v H', Q0 v H' → Q v H'
theorem PE.up {X : Cx} {e : Expr} {t : TE} (h : PE X e t) : PE X e (Lf.up t) := ⟨fun pins s σ H Q I q => by
  obtain ⟨Q0, q, k⟩ := q
  exact thn (h.run pins s σ H Q0 I q) fun u s1 r => by
    obtain ⟨v, H', I', rv, z⟩ := r
    exact ⟨v, H', I', rv, k v H' z⟩⟩
/-- a class (or another thing) of the module by its name -/
theorem pe_cl {X : Cx} {x : Str} {a : Addr} {pos : Pos} (hg : Gl X x) (hm : X.mg x = some (.ref a)) (hd : (x == ("__debug__" : Str)) = false := by decide +kernel) : PE X (.Name x pos) (tC (.ref a)) := pe_glob hg hm rfl hd
/-- an int of the module by its name -/
theorem pe_gint {X : Cx} {x : Str} {i : Int} {t : Tok} {pos : Pos} (hg : Gl X x) (hm : X.mg x = some (.int i t)) (hd : (x == ("__debug__" : Str)) = false := by decide +kernel) : PE X (.Name x pos) (tC (.int i)) := pe_glob hg hm ⟨t, rfl⟩ hd
theorem same_upd {H : Hp} {p : Addr} {o : HO} (n : H p = none) : Same H (upd H p o) := fun b u e => by rw [upd_ne (ne_of_none e n)]; exact e

/-! ### a def of the module, called by its name -/
structure Def (P : Program) (w : World) (K : PySem.W.Frag) (mg : Str → Option Value) (base : Heap) (CX : CXT) (k : Nat) (x : Str) (ps : List Str) (sp : Sp) : Prop where
  ex : ∃ f fd, mg x = some (.ref f) ∧ PySem.W.keepIn K (.ref f) = true ∧ FnOk P w K mg base CX k f fd ps sp ∧ Binds K fd ps []
section
variable {X : Cx} {CX : CXT} {k : Nat} {x : Str} {ps : List Str} {sp : Sp} {E : XK} {e : Expr} {es : List Expr} {t : TA} {p pos : Pos}
theorem pe_def (D : Def X.prog X.w X.K X.mg X.base CX k x ps sp) (hr : Room k X.A) (hx : Passes CX X E) (hg : Gl X x) (ha : PA X (e :: es) t)
    (hdb : (x == ("__debug__" : Str)) = false := by decide +kernel) (he : starEach (e :: es) X.env = (false, eval e X.env) :: starEach es X.env := by rfl)
    (hpl : (backTo pos (starEach es X.env)).any (·.1) = false := by rfl) : PE X (.Call (.Name x p) (e :: es) [] pos) (fun σ H Q => t σ H fun vs H1 => sp vs H1 Q E) := by
  obtain ⟨f, fd, g, kp, F, b⟩ := D.ex
  exact PE.imp (pe_call F hr hg g kp b .nil hx ha hdb he hpl) fun σ H Q h => by
    show t σ H fun vs H1 => sp (vs ++ []) H1 Q E
    simpa only [List.append_nil] using h
theorem pe_def0 (D : Def X.prog X.w X.K X.mg X.base CX k x ps sp) (hr : Room k X.A) (hx : Passes CX X E) (hg : Gl X x)
    (hdb : (x == ("__debug__" : Str)) = false := by decide +kernel) : PE X (.Call (.Name x p) [] [] pos) (fun _ H Q => sp [] H Q E) := by
  obtain ⟨f, fd, g, kp, F, b⟩ := D.ex
  exact pe_call0 F hr hg g kp b .nil hx hdb
end

/-! ### told, __init__ -/
def spTold (t : Str) : Sp := fun vs H Q _ => ∃ v, vs = [v] ∧ Q (.str t) H
def spIni1 (C : Addr) (f : Str) : Sp := fun vs H Q _ => ∃ a v, vs = [.ref a, v] ∧ H a = some (exo a C none) ∧
  ∀ d, H d = none → d ≠ a → Q .non (upd (upd H d (exd d [(f, v)])) a (exo a C (some d)))
def spIni2 (C : Addr) (f g : Str) : Sp := fun vs H Q _ => ∃ a v u, vs = [.ref a, v, u] ∧ H a = some (exo a C none) ∧
  ∀ d, H d = none → d ≠ a → Q .non (upd (upd (upd H d (exd d [(f, v)])) a (exo a C (some d))) d (exd d [(g, u), (f, v)]))
section
variable {P : Program} {w : World} {K : PySem.W.Frag} {mg : Str → Option Value} {base : Heap} {C f : Addr} {fd : FuncData} {q : Str} {a : Arguments} {sc : Scope}
theorem vis_of {N ps : List Str} (S : FnScope N ps sc) {x : Str} (h : x ∈ ps) : Vis sc x := by
  rcases S.par x h with e | e
  · exact .inl e
  · exact .inr (.inl e)
theorem told_ok {t : Str} {j : Nat} {p p2 : Pos} (F : FunD K "told" q a [.Return (some (.Constant (.str t) j p)) p2] sc [] [] f fd) (S : FnScope ["self"] ["self"] sc) :
    FnOk P w K mg base CX0 1 f fd ["self"] (spTold t) := by
  refine F.ok S (fun vs H Q E h => ?_) (fun cdv A outer s H vs Q E hr h => ⟨_, PSs.nox (pss_one (ps_ret pe_str)), ?_⟩)
  · obtain ⟨v, rfl, _⟩ := h
    rfl
  · obtain ⟨v, rfl, k⟩ := h
    exact k
theorem ini1_ok {fl : Str} {p1 p2 p3 p4 : Pos} (T : OexC K C) (no : PySem.W.findIn K (.ref C) fl = some none)
    (F : FunD K "__init__" q a [.Assign [.Attribute (.Name "self" p1) fl p2] (.Name fl p3) p4] sc [] [] f fd) (S : FnScope ["self", fl] ["self", fl] sc)
    (d1 : (fl == ("__debug__" : Str)) = false := by decide +kernel) (d2 : (fl == ("__classdict__" : Str)) = false := by decide +kernel) :
    FnOk P w K mg base CX0 1 f fd ["self", fl] (spIni1 C fl) := by
  refine F.ok S (fun vs H Q E h => ?_) (fun cdv A outer s H vs Q E hr h => ⟨_, PSs.nox (pss_one (ps_ost (pe_var (i := 0) rfl (vis_of S (by simp))) (pe_var (i := 1) rfl (vis_of S (by simp)) d1 d2))), ?_⟩)
  · obtain ⟨a, v, rfl, _⟩ := h
    rfl
  · obtain ⟨a, v, rfl, e, k⟩ := h
    exact ⟨_, rfl, _, rfl, a, C, rfl, T, no, .inl ⟨e, fun dx n ne => k dx n ne⟩⟩
theorem ini2_ok {fl gl : Str} {p1 p2 p3 p4 q1 q2 q3 q4 : Pos} (T : OexC K C) (no : PySem.W.findIn K (.ref C) fl = some none) (no2 : PySem.W.findIn K (.ref C) gl = some none)
    (F : FunD K "__init__" q a [.Assign [.Attribute (.Name "self" p1) fl p2] (.Name fl p3) p4, .Assign [.Attribute (.Name "self" q1) gl q2] (.Name gl q3) q4] sc [] [] f fd) (S : FnScope ["self", fl, gl] ["self", fl, gl] sc)
    (d1 : (fl == ("__debug__" : Str)) = false := by decide +kernel) (d2 : (fl == ("__classdict__" : Str)) = false := by decide +kernel)
    (d3 : (gl == ("__debug__" : Str)) = false := by decide +kernel) (d4 : (gl == ("__classdict__" : Str)) = false := by decide +kernel) :
    FnOk P w K mg base CX0 1 f fd ["self", fl, gl] (spIni2 C fl gl) := by
  refine F.ok S (fun vs H Q E h => ?_) (fun cdv A outer s H vs Q E hr h => ⟨_, PSs.nox (pss_cons (ps_ost (pe_var (i := 0) rfl (vis_of S (by simp))) (pe_var (i := 1) rfl (vis_of S (by simp)) d1 d2))
    (pss_one (ps_ost (pe_var (i := 0) rfl (vis_of S (by simp))) (pe_var (i := 2) rfl (vis_of S (by simp)) d3 d4)))), ?_⟩)
  · obtain ⟨a, v, u, rfl, _⟩ := h
    rfl
  · obtain ⟨a, v, u, rfl, e, k⟩ := h
    exact ⟨_, rfl, _, rfl, a, C, rfl, T, no, .inl ⟨e, fun dx n ne => ⟨_, rfl, _, rfl, a, C, rfl, T, no2, .inr ⟨dx, _, upd_same, by rw [upd_ne ne]; exact upd_same, (by show 1 ≤ 900; decide), k dx n ne⟩⟩⟩⟩
end

/-! ### an error class with all that is told of it -/
section
variable (P : Program) (w : World) (K : PySem.W.Frag) (mg : Str → Option Value) (base : Heap)
structure Tells (C : Addr) (t : Str) : Prop where
  ex : ∃ f fd, Meth K C "told" f ∧ FnOk P w K mg base CX0 1 f fd ["self"] (spTold t) ∧ Binds K fd ["self"] []
/-- the class x, made of one thing, its field -/
structure Err1 (x fl t : Str) : Prop where
  g : mg x = some (.ref (He.ga K x))
  c : ErrC K (He.ga K x)
  no : PySem.W.findIn K (.ref (He.ga K x)) fl = some none
  tl : Tells P w K mg base (He.ga K x) t
  ini : ∃ fI fd, PySem.W.findIn K (.ref (He.ga K x)) "__init__" = some (some (.ref fI)) ∧ PySem.W.typeIn K (.ref fI) = some (.type "function") ∧
    FnOk P w K mg base CX0 1 fI fd ["self", fl] (spIni1 (He.ga K x) fl) ∧ Binds K fd ["self", fl] []
structure Err2 (x fl gl t : Str) : Prop where
  g : mg x = some (.ref (He.ga K x))
  c : ErrC K (He.ga K x)
  no : PySem.W.findIn K (.ref (He.ga K x)) fl = some none
  no2 : PySem.W.findIn K (.ref (He.ga K x)) gl = some none
  tl : Tells P w K mg base (He.ga K x) t
  ini : ∃ fI fd, PySem.W.findIn K (.ref (He.ga K x)) "__init__" = some (some (.ref fI)) ∧ PySem.W.typeIn K (.ref fI) = some (.type "function") ∧
    FnOk P w K mg base CX0 1 fI fd ["self", fl, gl] (spIni2 (He.ga K x) fl gl) ∧ Binds K fd ["self", fl, gl] []
/-- made of nothing -/
structure Err0 (x t : Str) : Prop where
  g : mg x = some (.ref (He.ga K x))
  c : ErrC K (He.ga K x)
  ec : PySem.W.excIn K (He.ga K x) He.veBase "ValueError.__new__" = true
  tl : Tells P w K mg base (He.ga K x) t
end
section
variable {X : Cx} {x fl gl t : Str} {e e2 : Expr} {ta tb : TE} {p pos : Pos}
theorem pe_err1 (E : Err1 X.prog X.w X.K X.mg X.base x fl t) (hr : Room 2 X.A) (hg : Gl X x) (ha : PE X e ta) (hdb : (x == ("__debug__" : Str)) = false := by decide +kernel)
    (hs : starEach [e] X.env = (false, eval e X.env) :: starEach [] X.env := by rfl) :
    PE X (.Call (.Name x p) [e] [] pos) (fun σ H Q => ta σ H fun v H1 => ∀ a d H', H1 a = none → H1 d = none → Same H1 H' → XAt H' a (He.ga X.K x) (some d) → H' d = some (exd d [(fl, v)]) → Q (.ref a) H') := by
  obtain ⟨fI, fd, i1, i2, F, b⟩ := E.ini
  refine PE.imp (pe_new E.c.o i1 i2 F hr b pass0 hg E.g (pa_cons (PE.up ha) pa_nil hs) hdb hs rfl) fun σ H Q h => ?_
  refine ⟨_, h, fun v H1 k => ⟨(by show 1 ≤ 1000; decide), fun a na => ⟨a, v, rfl, upd_same, fun d nd ne => ?_⟩⟩⟩
  have nd1 : H1 d = none := by rw [upd_ne ne] at nd; exact nd
  refine ⟨rfl, k a d _ na nd1 (fun b o q => ?_) (.inl upd_same) (by rw [upd_ne ne]; exact upd_same)⟩
  rw [upd_ne (ne_of_none q na), upd_ne (ne_of_none q nd1), upd_ne (ne_of_none q na)]
  exact q
theorem pe_err2 (E : Err2 X.prog X.w X.K X.mg X.base x fl gl t) (hr : Room 2 X.A) (hg : Gl X x) (ha : PE X e ta) (hb : PE X e2 tb) (hdb : (x == ("__debug__" : Str)) = false := by decide +kernel)
    (hs : starEach [e, e2] X.env = (false, eval e X.env) :: starEach [e2] X.env := by rfl) (hs2 : starEach [e2] X.env = (false, eval e2 X.env) :: starEach [] X.env := by rfl)
    (hp : (backTo pos (starEach [e2] X.env)).any (·.1) = false := by rfl) :
    PE X (.Call (.Name x p) [e, e2] [] pos) (fun σ H Q => ta σ H fun v H0 => Lf.up tb σ H0 fun u H1 => ∀ a d H', H1 a = none → H1 d = none → Same H1 H' → XAt H' a (He.ga X.K x) (some d) → H' d = some (exd d [(gl, u), (fl, v)]) → Q (.ref a) H') := by
  obtain ⟨fI, fd, i1, i2, F, b⟩ := E.ini
  refine PE.imp (pe_new E.c.o i1 i2 F hr b pass0 hg E.g (pa_cons (PE.up ha) (pa_cons (PE.up hb) pa_nil hs2) hs) hdb hs hp) fun σ H Q h => ?_
  refine ⟨_, h, fun v H0 h2 => ?_⟩
  obtain ⟨Q0, h3, h4⟩ := h2
  refine ⟨Q0, h3, fun u H1 z => ?_⟩
  have k := h4 u H1 z
  refine ⟨(by show 2 ≤ 1000; decide), fun a na => ⟨a, v, u, rfl, upd_same, fun d nd ne => ?_⟩⟩
  have nd1 : H1 d = none := by rw [upd_ne ne] at nd; exact nd
  refine ⟨rfl, k a d _ na nd1 (fun b o q => ?_) (.inl (by rw [upd_ne ne.symm]; exact upd_same)) upd_same⟩
  rw [upd_ne (ne_of_none q nd1), upd_ne (ne_of_none q na), upd_ne (ne_of_none q nd1), upd_ne (ne_of_none q na)]
  exact q
theorem pe_err0 (E : Err0 X.prog X.w X.K X.mg X.base x t) (hg : Gl X x) (hdb : (x == ("__debug__" : Str)) = false := by decide +kernel) :
    PE X (.Call (.Name x p) [] [] pos) (fun _ H Q => ∀ a H', H a = none → Same H H' → XAt H' a (He.ga X.K x) none → Q (.ref a) H') :=
  PE.imp (pe_bare F.excBase_ValueError E.ec E.g E.c.o.kC hg hdb) fun σ H Q h a na => h a _ na (same_upd na) (.inr ⟨rfl, upd_same⟩)
end
end Lf

set_option Elab.async false
set_option linter.all false
set_option maxRecDepth 100000
set_option maxHeartbeats 4000000
/-! set(xs) of distinct texts, however many; how many there are. -/
namespace Lf
open PySem PySem.Spec PyProof.Rows L2
abbrev HasS (P : Program) (w : World) (h : Heap) (a : Addr) (xs : List Str) (i : Nat) : Prop := h.SetOf (PySem.strKind P w) a (fun y => (xs.take i).any (· == y)) i
theorem take_next {xs : List Str} (nd : xs.Nodup) {i : Nat} (hi : i < xs.length) :
    (xs.take i).any (· == xs.getD i Str.empty) = false ∧ ∀ y, ((xs.take i).any (· == y) || decide (y = xs.getD i Str.empty)) = (xs.take (i + 1)).any (· == y) := by
  have eg : xs.getD i Str.empty = xs[i] := by simp [List.getD, hi]
  rw [eg]
  have split : xs.take (i + 1) = xs.take i ++ [xs[i]] := by simp
  constructor
  · rw [List.any_eq_false]
    intro y hy hb
    have e : y = xs[i] := by simpa using hb
    subst e
    obtain ⟨j, hj, ej⟩ := List.mem_iff_getElem.mp hy
    rw [List.length_take] at hj
    have ej2 : xs[j] = xs[i] := by rw [← ej, List.getElem_take]
    have ji : j < i := by omega
    exact absurd ej2 (List.pairwise_iff_getElem.mp nd j i (by omega) hi ji)
  · intro y
    rw [split, List.any_append]
    congr 1
    by_cases e : y = xs[i]
    · subst e; simp
    · have q : (xs[i] == y) = false := beq_eq_false_iff_ne.mpr fun z => e z.symm
      simp [e, q]
section
variable {P : Program} {w : World} {A : Around} {R : Result → Shared → Prop} {It : Addr} {fp wr : List Addr} {G : Array GenState → Array GenState → Prop} {n : Nat} {Pv : Nat → Value → Prop} {Sv : Nat → Shared → Prop}
/-- the loop that fills a set: distinct texts -/
theorem fillS (W : WalksS P w A.in1 It fp wr G n Pv Sv) {a : Addr} (off : a ∉ fp) {xs : List Str} (nd : xs.Nodup) (len : xs.length = n) (few : n + 1 < scanBound)
    (read : ∀ i v, Pv i v → ∃ t, v = .str (xs.getD i Str.empty) t) : ∀ (m i : Nat) (s : Shared), i + m = n → Sv i s → HasS P w s.heap a xs i →
      (∀ s', Moved (a :: wr) G s s' → HasS P w s'.heap a xs n → R (.ok (.ret .none)) s') →
      codeAny (model P w) A (.builtin "set.update.loop" ⟨[.ref a, .ref It], []⟩) R s := by
  have offw : a ∉ wr := fun z => off (W.sub _ z)
  have keep : ∀ {s s' : Shared} {i : Nat}, Moved wr G s s' → HasS P w s.heap a xs i → HasS P w s'.heap a xs i := fun mv hs => by
    obtain ⟨o, es, ep, t, ho, r⟩ := hs
    exact ⟨o, es, ep, t, mv.heap a _ offw ho, r⟩
  intro m
  induction m with
  | zero =>
    intro i s e st hs fin
    obtain rfl : i = n := by omega
    refine codeAny_builtin PyProof.Rows.F.entry_set_update_loop ?_
    rw [Around.under_plainId PyProof.Rows.F.plain_set_update_loop _]
    show wpAny _ _ (pyNext (.ref It) >>= _) _ _ _
    exact wpAny_bind (W.done s _ _ st fun s' mv => wpAny_pure (fin s' (mv.mono fun b hb => List.mem_cons_of_mem _ hb) (keep mv hs)))
  | succ m ih =>
    intro i s e st hs fin
    have hi : i < n := by omega
    refine codeAny_builtin PyProof.Rows.F.entry_set_update_loop ?_
    rw [Around.under_plainId PyProof.Rows.F.plain_set_update_loop _]
    show wpAny _ _ (pyNext (.ref It) >>= _) _ _ _
    refine wpAny_bind (W.item i s _ _ hi st fun v s' pv st' mv => ?_)
    obtain ⟨t, rfl⟩ := read i v pv
    have hs' := keep mv hs
    obtain ⟨new, grow⟩ := take_next nd (show i < xs.length by omega)
    show wpAny _ _ (holding [Value.str _ t] (setAdd a (.str _ t)) >>= _) _ _ _
    refine wpAny_bind (wpAny_holding ?_)
    unfold setAdd
    refine wpAny_holding (wpAny_bind ((PySem.strKind P w).pyHash (strKind_is _ _ _ _) ?_))
    refine wpAny_setAddHashed_of (knd := PySem.strKind P w) (s := { s' with toks := s'.toks + 1 }) (strKind_is _ _ _ _) rfl hs' (by omega) fun h' sb hs2 => ?_
    have hs3 : HasS P w h' a xs (i + 1) := SetOf_congr hs2 grow (by show (if (xs.take i).any (· == xs.getD i Str.empty) = true then i else i + 1) = i + 1; rw [new]; rfl)
    refine wpAny_pure ⟨plainId_quiet PyProof.Rows.F.plain_set_update_loop _, ih (i + 1) _ (by omega) (W.frame _ s' _ _ st' (Nat.le_succ _) fun b hb o z => ?_) hs3 fun s2 mv2 q => fin s2 ?_ q⟩
    · rw [sb.2 b fun y => off (y ▸ hb)]
      exact z
    · refine Moved.trans W.gtrans ((mv.mono fun b hb => List.mem_cons_of_mem _ hb).then_heap (Nat.le_succ _) fun b o hb z => ?_) mv2
      rw [sb.2 b fun y => hb (by rw [y]; exact List.mem_cons_self)]
      exact z
end
/-- an empty set, newly laid -/
abbrev emptySet (led : Bool) : Obj := { cls := .type "set", dict := none, data := .set #[] 0 (.fresh 0 0 led) }
section
variable {P : Program} {w : World} {A : Around} {E : Value → Shared → Prop} {s : Shared} {l : Addr} {its : Array Value} {xs : List Str}
/-- what is wanted of it: a set at the next place, of these texts; all else as it was -/
abbrev SetMade (P : Program) (w : World) (s : Shared) (xs : List Str) (s' : Shared) : Prop :=
  ∃ h' tk, s' = { s with heap := h', toks := tk } ∧ HasS P w h' s.heap.objs.size xs xs.length ∧ ∀ b o, b < s.heap.objs.size → s.heap.get? b = some o → h'.get? b = some o
theorem setInit {led : Bool} {Q : Fin → Shared → Prop} (calm : A.handled = none) (hl : s.heap.IsList l its) (ht : StrsAre its.toList xs) (nd : xs.Nodup) (few : xs.length + 1 < scanBound)
    (h : ∀ s', SetMade P w s xs s' → Q (.done (.ret .none)) s') :
    wpAny (model P w) A (Builtin.«set.__init__» ⟨[.ref s.heap.objs.size, .ref l], []⟩) Q E { s with heap := s.heap.push (emptySet led) } := by
  obtain ⟨⟨oc, od, odt, osl⟩, hol, hcl, nl, hdl⟩ := hl
  dsimp only at hcl hdl
  subst hcl hdl
  have hS : (s.heap.push (emptySet led)).get? s.heap.objs.size = some (emptySet led) := Heap.get?_push_size _ rfl
  have hT : Shared.TypeIs { s with heap := s.heap.push (emptySet led) } (.ref s.heap.objs.size) "set" := ⟨_, hS, rfl⟩
  have hol' : (s.heap.push (emptySet led)).get? l = some { cls := .type "list", dict := od, data := .seq its nl, slots := osl } := Heap.get?_push_of_some _ hol
  have f1 := F.sub_list_set
  have f2 := F.sub_list_frozenset
  have f3 : (Value.type "list" == Value.type "dict") = false := by decide
  have hl1 : (s.heap.push (emptySet led)).IsList l its := ⟨_, hol', rfl, nl, rfl⟩
  unfold Builtin.«set.__init__» noKeywords Builtin.Frozenset.updateFrom
  generalize hPI : pyIter = PI
  wp_walk
  subst hPI
  refine wpAny_pyIter_list hl1 (wpAny_bind (wpAny_runValue ?_))
  have lS : l < s.heap.objs.size := Heap.lt_size hol
  have calm3 : A.in1.handled = none := by simp [calm]
  have nI : l ≠ (s.heap.push (emptySet led)).objs.size := by
    rw [Heap.size_push]
    exact Nat.ne_of_lt (Nat.lt_succ_of_lt lS)
  have off : s.heap.objs.size ∉ [(s.heap.push (emptySet led)).objs.size, l] := by
    rw [Heap.size_push]
    simp only [List.mem_cons, List.not_mem_nil, or_false, not_or]
    exact ⟨Nat.ne_of_lt (Nat.lt_succ_self _), Nat.ne_of_gt lS⟩
  have sz : xs.length = its.size := by rw [← StrsAre.len_eq ht, Array.length_toList]
  refine fillS ((Walks.list calm3 _ l nI its).toS) off nd sz (by omega) (fun i v hv => SS.strs_at ht i v (by rw [Array.getElem?_toList]; exact hv)) its.size 0 _ (Nat.zero_add _) ?_ ?_ fun s' mv q => ?_
  · exact ⟨⟨_, Heap.get?_push_size _ rfl, rfl, rfl⟩, hl1.push _⟩
  · exact SetOf_congr ((setObjOf_fresh (knd := PySem.strKind P w) led).setOf (Heap.get?_push_of_some _ hS) (by unfold scanBound; omega)) (fun _ => rfl) rfl
  · obtain ⟨h', g', d', tk', os'⟩ := s'
    obtain rfl : g' = s.gens := mv.gens
    obtain rfl : d' = s.drawn := mv.drawn
    obtain rfl : os' = s.os := mv.os
    show wpAny _ _ _ _ _ _
    refine wpAny_pure ?_
    show wpAny _ _ (ret Value.none) _ _ _
    refine wpAny_pure (h _ ⟨h', tk', rfl, by rw [sz]; exact q, fun b o hb z => mv.heap b o ?_ (Heap.get?_push_of_some _ (Heap.get?_push_of_some _ z))⟩)
    simp only [List.mem_cons, List.not_mem_nil, or_false, not_or]
    rw [Heap.size_push]
    exact ⟨Nat.ne_of_lt hb, Nat.ne_of_lt (Nat.lt_succ_of_lt hb)⟩
theorem setOfTexts {Q : Value → Shared → Prop} (calm : A.handled = none) (hl : s.heap.IsList l its) (ht : StrsAre its.toList xs) (nd : xs.Nodup) (few : xs.length + 1 < scanBound)
    (h : ∀ s', SetMade P w s xs s' → Q (.ref s.heap.objs.size) s') : wpAny (model P w) A (call (.type "set") [.ref l]) Q E s := by
  obtain ⟨c, tl, mro⟩ := F.called_set.mro
  have g1 := F.called_set.made
  have g2 := F.called_set.sub
  refine wpAny_call (codeAny_of_tree ?_)
  show wpAny _ _ (callAny (.type "set") _) _ _ _
  refine wpAny_pure ⟨Code.quiet_builtin _ (by decide +kernel), codeAny_builtin F.entry_type_call ?_⟩
  rw [Around.under_plain (weight_type_call_type "set" [.ref l] []) rfl]
  have g3 := F.called_set.notType
  have g4 := F.called_set.canCreate
  have g5 := F.typeCall_set_1 (.ref l)
  repeat (any_goals (first | assumption | wp_step))
  refine codeAny_mono (code_set_new_1 (.ref l) (E := E) (Q₁ := fun o s1 => ∃ led : Bool, o = .ref s.heap.objs.size ∧ s1 = { s with heap := s.heap.push (emptySet led) }) fun led => ⟨led, rfl, rfl⟩) fun r s1 hr => ?_
  cases r with
  | error e => exact hr
  | ok fl =>
    cases fl with
    | ret o =>
      obtain ⟨led, rfl, rfl⟩ := hr
      have hT : Shared.TypeIs { s with heap := s.heap.push (emptySet led) } (.ref s.heap.objs.size) "set" := ⟨_, Heap.get?_push_size _ rfl, rfl⟩
      have g6 := F.called_set.init.lookup
      have g7 := F.called_set.init.bind (.ref s.heap.objs.size)
      repeat (any_goals (first | assumption | wp_step))
      refine codeAny_mono (codeAny_call_builtin (R := wants (fun r s2 => r = .none ∧ SetMade P w s xs s2) E) F.called_set.init.plain F.entry_set_init (check_set_init_1 hT (setInit (by simp [calm]) hl ht nd few fun s2 q => ⟨rfl, q⟩))) fun r2 s2 hr2 => ?_
      cases r2 with
      | error e => exact hr2
      | ok f2 =>
        cases f2 with
        | ret v =>
          obtain ⟨rfl, q⟩ := hr2
          repeat (any_goals (first | assumption | wp_step))
          exact h _ q
        | _ => exact hr2.elim
    | _ => exact hr.elim
end
/-- len(set(xs)), xs a list of distinct texts -/
def tCount (K : PySem.W.Frag) (ta : TE) : TE := fun σ H Q => ta σ H fun x H1 => ∃ (l : Addr) (xs : List Str), x = .ref l ∧ SqL K H1 l (xs.map V.str) ∧ xs.Nodup ∧ xs.length ≤ 4000 ∧ Q (.int xs.length) H1
theorem pe_count {X : Cx} {a : Expr} {ta : TE} {p p2 q pos : Pos} (hc : X.calm = true) (hg : Gl X "len") (hm : X.mg "len" = none) (hg2 : Gl X "set") (hm2 : X.mg "set" = none) (ha : PE X a ta)
    (na : starEach [a] X.env = (false, eval a X.env) :: starEach [] X.env := by rfl) : PE X (.Call (.Name "len" p) [.Call (.Name "set" p2) [a] [] q] [] pos) (tCount X.K ta) := by
  refine ⟨fun pins s σ H Q I h => ?_⟩
  refine Call_ (ld_blt I hg hm boot_len (PyProof.Rows.callWith_builtin1 (PyProof.Rows.args_cons ?_ rfl) rfl rfl))
  refine Call_ (ld_blt I hg2 hm2 boot_set (PyProof.Rows.callWith_type1 (PyProof.Rows.args_cons (thn (ha.run pins s σ H _ I h) fun v s1 hh => PyProof.Rows.args_nil ?_) na) na rfl))
  obtain ⟨x, H1, I1, r1, l, xs, rfl, hq, nd, few, q1⟩ := hh
  cases r1
  obtain ⟨its, r, pl, hz⟩ := I1.list hq
  refine setOfTexts (I1.ok.hd hc) pl.isList (by simpa using strsAre_of r) nd (by unfold scanBound; omega) fun s' hs => PyProof.Rows.args_nil ?_
  obtain ⟨h', tk, rfl, ⟨o, es, ep, t, ho, hex, hd, _, _, _, hf, hn⟩, hk⟩ := hs
  have I2 : Inv X pins σ H1 { s1 with heap := h', toks := tk } := I1.kept fun b o z => hk b o (Heap.lt_size z) z
  exact call_len_set ho hex hd hf (by rw [hn]; omega) ⟨.int xs.length, H1, I2.tok _, ⟨_, by rw [hn]⟩, q1⟩
/-- xs + ys, lists that are read -/
def rCatL (K : PySem.W.Frag) : R2 := fun x y H Q => ∃ l b xs zs, x = .ref l ∧ y = .ref b ∧ SqL K H l xs ∧ SqL K H b zs ∧ xs.length + zs.length ≤ sizeLine ∧ ∀ p, H p = none → Q (.ref p) (upd H p (.lst (xs ++ zs)))
theorem op_catL {X : Cx} : OpR X (binaryOp .Add) (rCatL X.K) := by
  intro pins s σ H x y v u Q I rx ry h
  obtain ⟨l, b, xs, zs, rfl, rfl, h1, h2, hz, q⟩ := h
  cases rx
  cases ry
  obtain ⟨is, r1, ⟨⟨c1, d1, t1, s1⟩, n1, e1, k1, _, m1⟩, _⟩ := I.list h1
  obtain ⟨js, r2, ⟨⟨c2, d2, t2, s2⟩, n2, e2, k2, _, m2⟩, _⟩ := I.list h2
  dsimp only at k1 m1 k2 m2
  subst k1 m1 k2 m2
  have l1 := r1.length
  have l2 := r2.length
  refine concat_meets ⟨_, e1, rfl⟩ ⟨_, e2, rfl⟩ noFill_list_add seq_list_add F.slot_list_add F.entry_list_add (F.args_list_add_2 _ _)
    (list_addW l b is.toArray js.toArray n1 n2 d1 d2 s1 s2 (by simp only [List.size_toArray]; omega)) ⟨e1, e2, ?_⟩
  have ea : is.toArray ++ js.toArray = (is ++ js).toArray := by simp
  rw [ea]
  exact ⟨.ref _, _, I.lnew (t' := s.toks) (r1.append r2) (by rw [List.length_append]; omega), rfl, q _ I.fresh⟩
end Lf

set_option Elab.async false
set_option linter.all false
set_option maxRecDepth 100000
set_option maxHeartbeats 4000000
/-! Heaps that grow; data. -/
namespace Lf
open PySem PySem.Spec PyProof.Rows L2
/-- all but lists stay -/
def Solid (H H' : Hp) : Prop := ∀ b o, H b = some o → (∀ xs, o ≠ .lst xs) → H' b = some o
theorem Solid.refl (H : Hp) : Solid H H := fun _ _ h _ => h
theorem Solid.trans {H H1 H2 : Hp} (a : Solid H H1) (b : Solid H1 H2) : Solid H H2 := fun c o h n => b c o (a c o h n) n
theorem Solid.of {H H' : Hp} (e : Same H H') : Solid H H' := fun b o h _ => e b o h
theorem Solid.lst {H : Hp} {l : Addr} {xs ys : List V} (h : H l = some (.lst xs)) : Solid H (upd H l (.lst ys)) := fun b o e n => by
  rw [upd_ne (fun z => by rw [z, h] at e; cases e; exact n xs rfl)]
  exact e
theorem exo_nl {a C : Addr} {d : Option Addr} (xs : List V) : exo a C d ≠ .lst xs := fun z => by
  have z' : HO.ext _ = HO.lst xs := z
  cases z'
theorem exO_nl {a : Addr} {c : Value} (xs : List V) : ExO c a ≠ .lst xs := fun z => by
  have z' : HO.ext _ = HO.lst xs := z
  cases z'
theorem exd_nl {a : Addr} {fs : List (Str × V)} (xs : List V) : exd a fs ≠ .lst xs := fun z => by
  have z' : HO.ext _ = HO.lst xs := z
  cases z'
theorem XAt.solid {H H' : Hp} {a C : Addr} {d : Option Addr} (h : XAt H a C d) (s : Solid H H') : XAt H' a C d := by
  rcases h with h | ⟨e, h⟩
  · exact .inl (s _ _ h exo_nl)
  · exact .inr ⟨e, s _ _ h exO_nl⟩
/-- all but the thing at l stay -/
def But (l : Addr) (H H' : Hp) : Prop := ∀ b o, b ≠ l → H b = some o → H' b = some o
theorem But.refl {l : Addr} {H : Hp} : But l H H := fun _ _ _ h => h
theorem But.trans {l : Addr} {H H1 H2 : Hp} (a : But l H H1) (b : But l H1 H2) : But l H H2 := fun c o n h => b c o n (a c o n h)
theorem But.of {l : Addr} {H H' : Hp} (e : Same H H') : But l H H' := fun b o _ h => e b o h
theorem But.upd {l : Addr} {H : Hp} {o : HO} : But l H (upd H l o) := fun b u n h => by rw [upd_ne n]; exact h
theorem Same.but {l : Addr} {H0 H H' : Hp} (s : Same H0 H) (n : H0 l = none) (b : But l H H') : Same H0 H' := fun c o h => b c o (ne_of_none h n) (s c o h)
theorem SqT.same {K : PySem.W.Frag} {H H' : Hp} {a : Addr} {xs : List V} (e : Same H H') (h : SqT K H a xs) : SqT K H' a xs := by
  rcases h with (h | ⟨o, h⟩) | h
  · exact .inl (.inl (e _ _ h))
  · exact .inl (.inr ⟨o, e _ _ h⟩)
  · exact .inr h
theorem But.solid {l : Addr} {H H' : Hp} {xs : List V} (h : H l = some (.lst xs)) (b : But l H H') : Solid H H' := fun c o e n => b c o (fun z => by rw [z, h] at e; cases e; exact n xs rfl) e
theorem ifT {c : Bool} {A B : Prop} (hc : c = true) (h : A) : if c = true then A else B := by
  rw [if_pos hc]
  exact h
theorem ifF {c : Bool} {A B : Prop} (hc : c = false) (h : B) : if c = true then A else B := by
  rw [hc, if_neg Bool.false_ne_true]
  exact h
theorem pair_get {α β : Type} {F : α → β → Prop} : ∀ {as : List α} {bs : List β} {i : Nat} {a : α}, Paired F as bs → as[i]? = some a → ∃ b, bs[i]? = some b ∧ F a b
  | _, _, _, _, .nil, e => by simp at e
  | _, _, 0, _, .cons r _, e => by simp at e; subst e; exact ⟨_, rfl, r⟩
  | _, _, i + 1, a, .cons _ t, e => by
    obtain ⟨b, h1, h2⟩ := pair_get (i := i) (a := a) t (by simpa using e)
    exact ⟨b, by simpa using h1, h2⟩
theorem take_snoc {α : Type} {l : List α} {i : Nat} {x : α} (h : l[i]? = some x) : l.take (i + 1) = l.take i ++ [x] := by
  obtain ⟨hi, e⟩ := List.getElem?_eq_some_iff.mp h
  rw [← e]
  simp
theorem map_at {α : Type} {f : α → V} {l : List α} {i : Nat} {y : V} (h : (l.map f)[i]? = some y) : ∃ a, l[i]? = some a ∧ y = f a := by
  rw [List.getElem?_map] at h
  cases e : l[i]? with
  | none => rw [e] at h; cases h
  | some a => rw [e] at h; exact ⟨a, rfl, (Option.some.inj h).symm⟩
theorem eqv_same {d : PyData} (h : SeqAt.shaped d = true) : (!PyData.eqv d d) = false := by
  rw [SeqAt.eqv_refl d (SeqAt.canLay_of_shaped h)]
  rfl
mutual
theorem dp_same {K : PySem.W.Frag} {H H' : Hp} (e : Same H H') : ∀ {v : V} {d : PyData}, Dp K H v d → Dp K H' v d
  | _, _, .non => .non
  | _, _, .bl b => .bl b
  | _, _, .int i => .int i
  | _, _, .str x => .str x
  | _, _, .lst h r => .lst (L2.Same.seq e h) (dpAll_same e r)
  | _, _, .tup h r => .tup (SqT.same e h) (dpAll_same e r)
theorem dpAll_same {K : PySem.W.Frag} {H H' : Hp} (e : Same H H') : ∀ {vs : List V} {ds : List PyData}, DpAll K H vs ds → DpAll K H' vs ds
  | _, _, .nil => .nil
  | _, _, .cons h r => .cons (dp_same e h) (dpAll_same e r)
end
end Lf

set_option Elab.async false
set_option linter.all false
set_option maxRecDepth 100000
set_option maxHeartbeats 4000000
/-! Small things that many texts want. -/
namespace Lf
open PySem PySem.Spec PyProof.Rows L2
theorem yesT {σ : L2.St} {H : Hp} {A B : Hp → Prop} (h : A H) : tYes σ H fun b H3 => if b = true then A H3 else B H3 := by
  show if true = true then A H else B H
  rw [if_pos rfl]
  exact h
theorem pe_gstr {X : Cx} {x v : Str} {t : Tok} {pos : Pos} (hg : Gl X x) (hm : X.mg x = some (.str v t)) (hd : (x == ("__debug__" : Str)) = false := by decide +kernel) : PE X (.Name x pos) (tC (.str v)) := pe_glob hg hm ⟨t, rfl⟩ hd
theorem map_get {α β : Type} {f : α → β} {l : List α} {i : Nat} {y : β} (h : (l.map f)[i]? = some y) : ∃ a, l[i]? = some a ∧ y = f a := by
  rw [List.getElem?_map] at h
  cases z : l[i]? with
  | none => rw [z] at h; cases h
  | some a => rw [z] at h; exact ⟨a, rfl, (Option.some.inj h).symm⟩
theorem get_map {α β : Type} {f : α → β} {l : List α} {i : Nat} {a : α} (h : l[i]? = some a) : (l.map f)[i]? = some (f a) := by rw [List.getElem?_map, h]; rfl
theorem get_lt {α : Type} {l : List α} {i : Nat} {a : α} (h : l[i]? = some a) : i < l.length := (List.getElem?_eq_some_iff.mp h).1
theorem lt_get {α : Type} {l : List α} {i : Nat} (h : i < l.length) : ∃ a, l[i]? = some a := ⟨_, List.getElem?_eq_getElem h⟩
theorem nil_of {H H' : Hp} {p : Addr} (s : Same H H') (n : H' p = none) : H p = none := by
  cases e : H p with
  | none => rfl
  | some o => rw [s _ _ e] at n; cases n
theorem But.nil {H H' : Hp} {l p : Addr} (s : But l H H') (np : p ≠ l) (n : H' p = none) : H p = none := by
  cases e : H p with
  | none => rfl
  | some o => rw [s _ _ np e] at n; cases n
theorem tyx_same {K : PySem.W.Frag} {H H' : Hp} {x : V} {t : Value} (e : Same H H') (h : TyX K H x t) : TyX K H' x t := by
  cases h with
  | base b =>
    cases b with
    | non => exact .base .non
    | bl b => exact .base (.bl b)
    | int i => exact .base (.int i)
    | str s => exact .base (.str s)
    | flt f => exact .base (.flt f)
    | lst h => exact .base (.lst (e _ _ h))
    | frz h => exact .base (.frz (e _ _ h))
    | tup h => exact .base (.tup (e _ _ h))
    | dK h => exact .base (.dK (e _ _ h))
    | dT h => exact .base (.dT (e _ _ h))
    | ins h a b c d f => exact .base (.ins (e _ _ h) a b c d f)
  | byt b => exact .byt b
  | set h => exact .set (e _ _ h)
  | kList h c => exact .kList h c
  | kTuple h c => exact .kTuple h c
  | kDict h c => exact .kDict h c
  | fTuple h => exact .fTuple (e _ _ h)
  | fDict h => exact .fDict (e _ _ h)
/-- a number, or what is none -/
inductive NumK (K : PySem.W.Frag) (H : Hp) : V → Option Int → Prop
  | int (i : Int) : NumK K H (.int i) (some i)
  | bl (b : Bool) : NumK K H (.bl b) none
  | oth {x : V} {n : String} (ty : TyX K H x (.type n)) (e : kitB n "int" = some false) : NumK K H x none
theorem NumK.same {K : PySem.W.Frag} {H H' : Hp} {x : V} {o : Option Int} (e : Same H H') (h : NumK K H x o) : NumK K H' x o := by
  cases h with
  | int i => exact .int i
  | bl b => exact .bl b
  | oth t q => exact .oth (tyx_same e t) q
/-- a text, or what is none -/
inductive TxtK (K : PySem.W.Frag) (H : Hp) : V → Option Str → Prop
  | str (z : Str) : TxtK K H (.str z) (some z)
  | oth {x : V} {n : String} (ty : TyX K H x (.type n)) (e : kitB n "str" = some false) : TxtK K H x none
theorem TxtK.same {K : PySem.W.Frag} {H H' : Hp} {x : V} {o : Option Str} (e : Same H H') (h : TxtK K H x o) : TxtK K H' x o := by
  cases h with
  | str i => exact .str i
  | oth t q => exact .oth (tyx_same e t) q
def isTx : Option Str → Bool
  | some _ => true
  | none => false
theorem TxtK.ty {K : PySem.W.Frag} {H : Hp} {x : V} {o : Option Str} (h : TxtK K H x o) : ∃ n, TyX K H x (.type n) ∧ PySem.W.kitOne K (.type n) (.type "str") = some (isTx o) := by
  cases h with
  | str z => exact ⟨_, .base (.str z), kit_ty (show kitB "str" "str" = some true by decide +kernel)⟩
  | oth t q => exact ⟨_, t, kit_ty q⟩
end Lf

set_option Elab.async false
set_option linter.all false
set_option maxRecDepth 100000
set_option maxHeartbeats 4000000
/-! for i, x in enumerate(t), t a tuple. -/
namespace Lf
open PySem PySem.Spec PyProof.Rows L2
set_option maxHeartbeats 8000000 in
theorem new_enum {v : Value} {o : Obj} {G : Heap → Prop} (B : Begins v o G) :
    Meets (Builtin.«enumerate.__new__» ⟨[.type "enumerate", v], []⟩) (fun _ R s => G s.heap ∧
      R (.ok (.ret (.ref (s.heap.push o).objs.size)))
        { s with heap := (s.heap.push o).push { cls := .type "enumerate", data := .fields #[.none, .bool false, .ref s.heap.objs.size, rawInt 0, .none, .none] } }) :=
  .of_wp fun prog w A R s hh => by
    obtain ⟨hp, g, d, tk, os⟩ := s
    obtain ⟨hg, fin⟩ := hh
    have sub := sub_enumerate
    have go : ∀ {A' : Around} {E' : Value → Shared → Prop} {Q' : Value → Shared → Prop}, Q' (.ref hp.objs.size) ⟨hp.push o, g, d, tk, os⟩ → wpAny (model prog w) A' (pyIter v) Q' E' ⟨hp, g, d, tk, os⟩ := fun q =>
      B.iter prog w _ _ ⟨hp, g, d, tk, os⟩ _ hg q
    wp_walk using go
    refine wpAny_stack_any fun st => wpAny_pure ?_
    split
    · rename_i c _ _ _ _ _
      cases (c == Value.type "enumerate") <;> (wp_walk using go; exact ⟨_, rfl, fin⟩)
    · wp_walk using go
      exact ⟨_, rfl, fin⟩
theorem call_enum {prog : Program} {w : World} {A : Around} {E : Value → Shared → Prop} {s : Shared} {v : Value} {o : Obj} {G : Heap → Prop} {Q : Value → Shared → Prop} (B : Begins v o G) (hg : G s.heap)
    (h : ∀ h', IsEnum h' (s.heap.objs.size + 1) s.heap.objs.size 0 .none → h'.get? s.heap.objs.size = some o → (∀ b u, s.heap.get? b = some u → h'.get? b = some u) → Q (.ref (s.heap.objs.size + 1)) { s with heap := h' }) :
    wpAny (model prog w) A (call (.type "enumerate") [v]) Q E s := by
  refine callType_new F.called_enumerate (by decide) (F.typeCall_enumerate_1 _) (F.newCall_enumerate_1 _) (fun x => F.args_object_init_2 x _) F.entry_enumerate_new (new_enum B) ⟨hg, ?_⟩
  have sz : (s.heap.push o).objs.size = s.heap.objs.size + 1 := Heap.size_push ..
  show _ ∧ _
  rw [sz]
  let e : Obj := { cls := .type "enumerate", data := .fields #[.none, .bool false, .ref s.heap.objs.size, rawInt 0, .none, .none] }
  have he : IsEnum ((s.heap.push o).push e) (s.heap.objs.size + 1) s.heap.objs.size 0 .none := by
    have z := Heap.get?_push_size (s.heap.push o) (o := e) rfl
    rw [sz] at z
    exact z
  exact ⟨⟨_, he, rfl⟩, h _ he (Heap.get?_push_of_some _ (Heap.get?_push_size _ B.free)) fun b u z => Heap.get?_push_of_some _ (Heap.get?_push_of_some _ z)⟩
/-- the tuple at a as it stands, its items in new pairs with their places -/
def Itet (K : PySem.W.Frag) (a : Addr) : It :=
  ⟨fun i H => ∃ (xs : List V) (x : V), SqT K H a xs ∧ xs[i]? = some x,
    fun i H v H' => ∃ T x, v = .ref T ∧ H T = none ∧ H' = upd H T (.tup [.int (i : Nat), x]) ∧ ∀ xs, SqT K H a xs → xs[i]? = some x,
    fun i H => ∃ xs : List V, SqT K H a xs ∧ xs.length = i⟩
theorem turn_enumT {P : Program} {w : World} {K : PySem.W.Frag} {elts : List Expr} {kk : Nat} {tpos : Pos} (a e it : Addr) :
    Turn P w K (.Tuple elts kk tpos) (Itet K a) [e, it] e (fun i h => (∃ old, IsEnum h e it ((i : Nat) : Int) old) ∧ h.IsTupleIter it a i ∧ e ≠ it ∧ a ≠ it ∧ a ≠ e) where
  mem := List.mem_cons_self
  obj := fun i h st b hb => by
    obtain ⟨⟨old, he⟩, ⟨o, ho, hc, hd⟩, _⟩ := st
    simp only [List.mem_cons, List.not_mem_nil, or_false] at hb
    rcases hb with rfl | rfl
    · exact ⟨_, he, fun v q => nomatch q⟩
    · exact ⟨o, ho, fun v q => by rw [hd] at q; cases q⟩
  keep := fun i h h' st k => by
    obtain ⟨⟨old, he⟩, hi, ne⟩ := st
    exact ⟨⟨old, k e (by simp) _ he⟩, hi.at fun o q => k it (by simp) o q, ne⟩
  item := by
    intro X hP hw hK hc i pins s σ H E I hf st hg
    subst hP hw hK
    obtain ⟨⟨old, he⟩, hit, ne, na, nae⟩ := st
    obtain ⟨xs, x, hq, hx⟩ := hg
    obtain ⟨its, rv, p, hz⟩ := I.tuple hq
    obtain ⟨u, hu, ru⟩ := rv.get hx
    have el : e < s.heap.objs.size := Heap.lt_size he
    have il : it < s.heap.objs.size := by obtain ⟨_, q, _⟩ := hit; exact Heap.lt_size q
    have calm : X.A.in1.handled = none := by have := I.ok.hd hc; simp [this]
    have hlt : i < its.toArray.size := by rw [List.size_toArray, ← rv.length]; exact (List.getElem?_eq_some_iff.mp hx).1
    refine wpAny_pyNext_enum_itemD (Draws.tuple (prog := X.prog) (w := X.w) calm it a na its.toArray) he ⟨hit, p⟩ hlt ne (by simp only [List.mem_cons, List.not_mem_nil, or_false, not_or]; exact ⟨ne, Ne.symm nae⟩) fun y h' tk hy ho st' hT hsz hk => ?_
    have ey : y = u := by
      have h1 : its[i]? = some y := by simpa using hy
      rw [hu] at h1
      exact (Option.some.inj h1).symm
    subst ey
    refine ⟨_, rfl, wpAny_letOwnedTupleGo_enum (s := { s with heap := h', toks := tk + 1 }) ho fun h'' he' sb => ?_⟩
    have hT2 := (sb.2 _ (Nat.ne_of_gt el)).trans hT
    have new : ObjOk X.prog X.w (upd H s.heap.objs.size (.tup [.int (i : Nat), x])) h'' s.heap.objs.size (.tup [.int (i : Nat), x]) :=
      ⟨by show 2 ≤ sizeLine; decide, [.int i tk, y], .cons ⟨_, rfl⟩ (.cons ru .nil), ⟨_, hT2, rfl, _, rfl⟩⟩
    have off : ∀ b, b ∉ [e, it] → b ≠ e ∧ b ≠ it := fun b hb => by
      simp only [List.mem_cons, List.not_mem_nil, or_false, not_or] at hb
      exact hb
    have I1 : Inv X pins σ (upd H s.heap.objs.size (.tup [.int (i : Nat), x])) { s with heap := h'', toks := tk + 1 } :=
      I.turnedNew (ch := [e, it]) (fun b ob hb q => (sb.2 b (off b hb).1).trans (hk b ob (off b hb).1 (off b hb).2 q)) hf (Nat.le_refl _) new
    refine ⟨.ref s.heap.objs.size, _, I1, rfl, ⟨_, x, rfl, I.hok.fresh (Nat.le_refl _), rfl, fun ys hy => by rw [I.tuple_inj hy hq]; exact hx⟩, ⟨⟨y, ?_⟩, st'.1.at fun o q => (sb.2 it (Ne.symm ne)).trans q, ne, na, nae⟩, fun b hb => ?_⟩
    · have z : ((i + 1 : Nat) : Int) = (i : Int) + 1 := by omega
      rw [z]
      exact he'
    · have lt : b < s.heap.objs.size := by
        simp only [List.mem_cons, List.not_mem_nil, or_false] at hb
        rcases hb with rfl | rfl
        · exact el
        · exact il
      rw [upd_ne (Nat.ne_of_lt lt)]
      exact (hf b hb).1
  done := by
    intro X hP hw hK hc i pins s σ H E I hf st hg
    subst hP hw hK
    obtain ⟨⟨old, he⟩, hit, ne, na, nae⟩ := st
    obtain ⟨xs, hq, hx⟩ := hg
    obtain ⟨its, rv, p, hz⟩ := I.tuple hq
    obtain ⟨f0, f1, f2, f3, f4, f5⟩ := hf it (by simp)
    have calm : X.A.in1.handled = none := by have := I.ok.hd hc; simp [this]
    have en : its.toArray.size = i := by rw [List.size_toArray, ← rv.length, hx]
    exact wpAny_pyNext_enum_endD (Draws.tuple (prog := X.prog) (w := X.w) calm it a na its.toArray) he (by rw [en]; exact ⟨hit, p⟩) fun h' eb => ⟨rfl, I.turned (t' := s.toks) (fun b o hb q => eb b o hb q) f0 f1 f3 f4 f5⟩
  self := fun A i s Q E st h => by
    obtain ⟨⟨_, he⟩, _⟩ := st
    exact wpAny_pyIter_enum he h
/-- enumerate(x), x a list or a tuple -/
def iEnumA (K : PySem.W.Frag) (ta : TE) : TI := fun σ H R => ta σ H fun x H1 => ∃ a xs, x = .ref a ∧ ((SqL K H1 a xs ∧ R (Ite K a) H1) ∨ (SqT K H1 a xs ∧ R (Itet K a) H1))
theorem pi_enumA {X : Cx} {e : Expr} {ta : TE} {p pos tpos : Pos} {elts : List Expr} {kk : Nat} (hg : Gl X "enumerate") (hm : X.mg "enumerate" = none) (ha : PE X e ta)
    (hs : starEach [e] X.env = [(false, eval e X.env)] := by rfl) : PI X (.Tuple elts kk tpos) (.Call (.Name "enumerate" p) [e] [] pos) (iEnumA X.K ta) := by
  refine ⟨fun pins s σ H R I h => ?_⟩
  refine Call_ (ld_blt I hg hm boot_enumerate (PyProof.Rows.callWith_type1 (thn ((pa_cons (PE.up ha) pa_nil hs).run pos pins s σ H (fun vs H1 => ∃ x, vs = [x] ∧ ∃ a xs, x = .ref a ∧ ((SqL X.K H1 a xs ∧ R (Ite X.K a) H1) ∨ (SqT X.K H1 a xs ∧ R (Itet X.K a) H1))) I ?_) fun us s1 hh => ?_) hs rfl))
  · exact ⟨_, h, fun v H' z => ⟨v, rfl, z⟩⟩
  obtain ⟨vs, H1, I1, r1, x, rfl, a, xs, rfl, q1⟩ := hh
  cases r1 with
  | cons r rr =>
    cases rr
    cases r
    have fp : ∀ b ∈ [s1.heap.objs.size + 1, s1.heap.objs.size], s1.heap.objs.size ≤ b := fun b hb => by
      simp only [List.mem_cons, List.not_mem_nil, or_false] at hb
      rcases hb with rfl | rfl
      · exact Nat.le_add_right _ _
      · exact Nat.le_refl _
    rcases q1 with ⟨hq, q⟩ | ⟨hq, q⟩
    · obtain ⟨its, rv, p', hz⟩ := I1.list hq
      refine call_enum (begins_list a its.toArray) p'.isList fun h' he hit hk => wpAny_pyIter_enum he ?_
      exact ⟨s1.heap.objs.size + 1, [s1.heap.objs.size + 1, s1.heap.objs.size], _, _, H1, rfl, I1.kept (t' := s1.toks) hk, turn_enum a (s1.heap.objs.size + 1) s1.heap.objs.size,
        ⟨⟨.none, he⟩, ⟨_, hit, rfl, rfl⟩, Nat.succ_ne_self _⟩, fun b hb => I1.fpOk (fp b hb) (I1.hok.fresh (fp b hb)), q⟩
    · obtain ⟨its, rv, p', hz⟩ := I1.tuple hq
      have al : a < s1.heap.objs.size := p'.lt
      refine call_enum (begins_tuple a its.toArray) p' fun h' he hit hk => wpAny_pyIter_enum he ?_
      exact ⟨s1.heap.objs.size + 1, [s1.heap.objs.size + 1, s1.heap.objs.size], _, _, H1, rfl, I1.kept (t' := s1.toks) hk, turn_enumT a (s1.heap.objs.size + 1) s1.heap.objs.size,
        ⟨⟨.none, he⟩, ⟨_, hit, rfl, rfl⟩, Nat.succ_ne_self _, Nat.ne_of_lt al, Nat.ne_of_lt (Nat.lt_succ_of_lt al)⟩, fun b hb => I1.fpOk (fp b hb) (I1.hok.fresh (fp b hb)), q⟩
/-- it gives each item of xs in a new pair with its place -/
theorem walk_enumT {K : PySem.W.Frag} {a : Addr} {xs : List V} : Walk (Itet K a) xs.length (fun H => SqT K H a xs)
    (fun i H v H' => ∃ T x, v = .ref T ∧ H T = none ∧ H' = upd H T (.tup [.int (i : Nat), x]) ∧ xs[i]? = some x) where
  goes := fun i H hi g => ⟨xs, _, g, List.getElem?_eq_getElem hi⟩
  stops := fun H g => ⟨xs, g, rfl⟩
  yields := fun i H x H' _ g y => by
    obtain ⟨T, z, e, n, eh, f⟩ := y
    exact ⟨T, z, e, n, eh, f xs g⟩
theorem walk_enumL {K : PySem.W.Frag} {a : Addr} {xs : List V} : Walk (Ite K a) xs.length (fun H => SqL K H a xs)
    (fun i H v H' => ∃ T x, v = .ref T ∧ H T = none ∧ H' = upd H T (.tup [.int (i : Nat), x]) ∧ xs[i]? = some x) where
  goes := fun i H hi g => ⟨xs, _, g, List.getElem?_eq_getElem hi⟩
  stops := fun H g => ⟨xs, g, Nat.le_refl _⟩
  yields := fun i H x H' _ g y => by
    obtain ⟨T, z, e, n, eh, f⟩ := y
    exact ⟨T, z, e, n, eh, f xs g⟩
end Lf

set_option Elab.async false
set_option linter.all false
set_option maxRecDepth 100000
set_option maxHeartbeats 8000000
/-! A binary operator by an own method, the other operand of any type; != by an own __eq__. -/
namespace Lf
open PySem PySem.Spec PyProof.Rows L2
section
open PySem.W
variable {prog : Program} {w : World} {A : Around} {E : Value → Shared → Prop} {s : Shared} {K : Frag} {x C L f : Addr} {h₀ : Heap} {m : Str → Option Value} {ox : Obj} {od : Option Obj}
/-- what is to be known of the other operand's type -/
structure Side (K : Frag) (C : Addr) (nm : String) (tb : Value) (right py : Bool) : Prop where
  ne : (Value.ref C == tb) = false
  fills : ∀ (M : Model) (h : Heap), K.In h → Looks M h (fillsNumberSlot tb nm) right
  sub : subIn K tb (.ref C) = some false
  inPy : right = true → ∀ (M : Model) (h : Heap), K.In h → Looks M h (numberSlotInPython tb nm) py
  refl : right = true → py = false → ∃ ro, findIn K tb (dunderR nm) = some ro
theorem bin_other {op : Operator} {b tb : Value} {rc : Option Value} {right py : Bool} {Q : Value → Shared → Prop} (F : Fr h₀ L s.heap m) (X₀ : K.In h₀) (I : InstAt s.heap x ox C od) (hc : selfFirst K C = true)
    (hs : findIn K (.ref C) (PySem.dunder op.info.2) = some (some (.ref f))) (hf : isFn K (.ref f) = true) (hr : findIn K (.ref C) (dunderR op.info.2) = some rc) (hp : rc = none ∨ ∃ g : Addr, rc = some (.ref g))
    (Lb : Looks (model prog w) s.heap (typeOf b) tb) (S : Side K C op.info.2 tb right py)
    (h : wpAny (model prog w) A (call (.ref f) [.ref x, b]) (PySem.W.CmpBack Q) E s) : wpAny (model prog w) A (binaryOp op (.ref x) b) Q E s := by
  have X := X₀.keeps F.keep
  obtain ⟨cd, rest, hcd, hm⟩ := ksp_first hc
  rcases hi : op.info with ⟨sym, nm'⟩
  rw [hi] at hs hr S
  dsimp only at hs hr S
  have one := ksp_try X I hs hf h
  obtain ⟨hh, g, d, tt, os⟩ := s
  have L1 : Looks (model prog w) hh (typeOf (.ref x)) (.ref C) := I.type
  have L3 : Looks (model prog w) hh (fillsNumberSlot (.ref C) nm') true := fills_K X hcd hm hs
  have L4 := S.fills (model prog w) hh X
  have L5 : Looks (model prog w) hh (isSubtype tb (.ref C)) false := looks_subIn X S.sub
  have L6 : Looks (model prog w) hh (numberSlotInPython (.ref C) nm') true := ksp_inPy X hs hr hp
  have hne := S.ne
  simp only [binaryOp, hi]
  refine wpAny_holding (wpAny_bind ?_)
  unfold binaryOp1
  refine wpAny_bind (L1.at (wpAny_bind (Lb.at (wpAny_bind (L3.at ?_)))))
  simp only [hne, Bool.false_eq_true, if_false]
  cases right with
  | false =>
    ksp_lk
    refine wpAny_mono one (fun r s' hr' => ?_) fun _ _ e => e
    obtain ⟨v, rfl, hq⟩ := hr'
    ksp_lk
    exact hq
  | true =>
    have L7 := S.inPy rfl (model prog w) hh X
    cases py with
    | true =>
      ksp_lk
      refine wpAny_mono one (fun r s' hr' => ?_) fun _ _ e => e
      obtain ⟨v, rfl, hq⟩ := hr'
      ksp_lk
      exact hq
    | false =>
      obtain ⟨ro, hro⟩ := S.refl rfl rfl
      have L8 : Looks (model prog w) hh (typeLookup tb (dunderR nm')) ro := looks_findIn X hro
      ksp_lk
      refine wpAny_mono one (fun r s' hr' => ?_) fun _ _ e => e
      obtain ⟨v, rfl, hq⟩ := hr'
      ksp_lk
      exact hq
end

/-- what is known of a class C with a method of its own for op -/
structure OwnOp (K : PySem.W.Frag) (C : Addr) (nm : String) (f : Addr) : Prop where
  first : PySem.W.selfFirst K C = true
  find : PySem.W.findIn K (.ref C) (PySem.dunder nm) = some (some (.ref f))
  fn : PySem.W.isFn K (.ref f) = true
  refl : PySem.W.findIn K (.ref C) (dunderR nm) = some none
def RightOf (K : PySem.W.Frag) (C : Addr) (nm : String) (t : Value) : Prop := t = .ref C ∨ ∃ right py, Side K C nm t right py
def rBin (K : PySem.W.Frag) (C : Addr) (nm : String) (sp : Sp) (E : XK) : R2 := fun x y H Q => ∃ a dx fs t, x = .ref a ∧ H a = some (.ins C dx fs) ∧ TyX K H y t ∧ RightOf K C nm t ∧ sp [.ref a, y] H Q E
theorem cmpBack {X : Cx} {pins : List (Addr × Obj)} {σ : L2.St} {Q : VK} {v : Value} {s : Shared} (h : EP X pins σ Q v s) : PySem.W.CmpBack (EP X pins σ Q) v s := by
  cases v with
  | notImplemented =>
    obtain ⟨z, H, I, r, q⟩ := h
    cases z <;> first | (obtain ⟨_, e⟩ := r; cases e; done) | (cases r; done)
  | _ => exact h
theorem op_own {X : Cx} {CX : CXT} {k : Nat} {f C : Addr} {fd : FuncData} {ps : List Str} {sp : Sp} {E : XK} {op : Operator} (O : OwnOp X.K C op.info.2 f) (F : FnOk X.prog X.w X.K X.mg X.base CX k f fd ps sp) (hr : Room k X.A)
    (hb : L2.Binds X.K fd ps []) (hx : Passes CX X E) : OpR X (binaryOp op) (rBin X.K C op.info.2 sp E) := by
  intro pins s σ H x y v u Q I rx ry hq
  obtain ⟨a, dx, fs, t, rfl, ha, ty, rt, h⟩ := hq
  cases rx
  obtain ⟨mA, J, _⟩ := ins_get I.hok ha
  obtain ⟨od, J, _⟩ := J.look
  obtain ⟨m, hF⟩ := I.fr
  obtain ⟨P, Z, hP, _⟩ := kit_of I ry ty
  have Lb := Z.ty (model X.prog X.w) s.heap I.kIn hP
  have run : wpAny (model X.prog X.w) X.A (call (.ref f) [.ref a, u]) (PySem.W.CmpBack (EP X pins σ Q)) X.xe s :=
    wpAny_mono (run_fn (us := [.ref a, u]) (vs := [.ref a, y]) F hr hb .nil hx I (.cons rfl (.cons ry .nil)) h) (fun _ _ q => cmpBack q) fun _ _ e => e
  rcases rt with rfl | ⟨right, py, S⟩
  · exact PySem.W.binop_K hF I.ok.mod.kin J Lb O.first O.find O.fn run
  · exact bin_other hF I.ok.mod.kin J O.first O.find O.fn O.refl (.inl rfl) Lb S run

section
open PySem.W
variable {prog : Program} {w : World} {A : Around} {E : Value → Shared → Prop} {s : Shared} {K : Frag} {x C L f : Addr} {h₀ : Heap} {m : Str → Option Value} {ox : Obj} {od : Option Obj}
theorem slotNe : PySem.Slot "object" "__ne__" "object.__ne__" := PySem.F.slot_object_ne
theorem ifBound_ne {b : Value} {Q : Option Value → Shared → Prop} (X : K.In s.heap) (I : InstAt s.heap x ox C od) (hf : findIn K (.ref C) "__ne__" = some (some (.builtin "object.__ne__")))
    (h : wpAny (model prog w) A (call (.builtin "object.__ne__") [.ref x, b]) (fun v => Q (some v)) E s) : wpAny (model prog w) A (callSpecialIfBound? (.ref x) "__ne__" [b]) Q E s := by
  simp only [callSpecialIfBound?, bindSpecialIfBound?]
  refine wpAny_holding (wpAny_bind (wpAny_bind (wpAny_bind (I.type.here ((looks_findIn X hf).here ?_)))))
  refine wpAny_bind (wpAny_askSetting (wpAny_ite ?_))
  have fin : wpAny (model prog w) A (call (.builtin "object.__ne__") ([.ref x] ++ [b]) >>= fun v => pure (some v)) Q E s := wpAny_bind (wpAny_mono h (fun v s' h' => wpAny_pure h') fun _ _ h' => h')
  rw [slotNe.bind]
  split
  · exact wpAny_bind (wpAny_pure (wpAny_pure (by exact fin)))
  · exact wpAny_tryCatch (wpAny_bind (wpAny_pure (wpAny_pure (by exact fin))))
theorem ne_body {b : Value} {Q : Fin → Shared → Prop} (hu : A.units < cLine) (X : K.In s.heap) (I : InstAt s.heap x ox C od) (hs : findIn K (.ref C) "__eq__" = some (some (.ref f))) (hf : isFn K (.ref f) = true)
    (h : wpAny (model prog w) A (call (.ref f) [.ref x, b]) (fun v s' => ∃ r, v = .bool r ∧ Q (.done (.ret (.bool (!r)))) s') E s) : wpAny (model prog w) A (Builtin.«object.__ne__» ⟨[.ref x, b], []⟩) Q E s := by
  unfold Builtin.«object.__ne__»
  refine wpAny_bind (wpAny_pure ?_)
  refine wpAny_bind (wpAny_cRoomFor hu ?_)
  refine wpAny_bind (ifBound_K X I hs hf (wpAny_mono h (fun v s' hv => ?_) fun _ _ e => e))
  obtain ⟨r, rfl, q⟩ := hv
  exact wpAny_bind (wpAny_truthy_bool (wpAny_pure q))

theorem call_ne {b : Value} {Q : Value → Shared → Prop} (hu : A.in1.units < cLine) (X : K.In s.heap) (I : InstAt s.heap x ox C od) (ho : subIn K (.ref C) (.type "object") = some true) (hs : findIn K (.ref C) "__eq__" = some (some (.ref f))) (hf : isFn K (.ref f) = true)
    (h : wpAny (model prog w) A.in1 (call (.ref f) [.ref x, b]) (fun v s' => ∃ r, v = .bool r ∧ Q (.bool (!r)) s') E s) : wpAny (model prog w) A (call (.builtin "object.__ne__") [.ref x, b]) Q E s := by
  refine wpAny_call (codeAny_call_builtin slotNe.plain PySem.F.cmpEntry_ne ?_)
  refine PySem.W.check_slot PySem.F.cmpKind_ne PySem.F.cmpSplit_ne (I.type.andThen (looks_subIn X ho)) (PySem.F.cmpArgs_ne _ _) ?_
  refine ne_body hu X I hs hf (wpAny_mono h (fun v s' hv => ?_) fun _ _ e => e)
  obtain ⟨r, rfl, q⟩ := hv
  exact ⟨r, rfl, q⟩
theorem rc_ne {b tb : Value} {Q : Value → Shared → Prop} (hu : A.units + 1 < cLine) (F : Fr h₀ L s.heap m) (X₀ : K.In h₀) (I : InstAt s.heap x ox C od) (hb : Looks (model prog w) s.heap (typeOf b) tb) (hn : notFirst K C tb = true) (ho : subIn K (.ref C) (.type "object") = some true)
    (hne : findIn K (.ref C) "__ne__" = some (some (.builtin "object.__ne__"))) (hs : findIn K (.ref C) "__eq__" = some (some (.ref f))) (hf : isFn K (.ref f) = true)
    (h : wpAny (model prog w) A.in1 (call (.ref f) [.ref x, b]) (fun v s' => ∃ r, v = .bool r ∧ Q (.bool (!r)) s') E s) : wpAny (model prog w) A (richCompare .NotEq (.ref x) b) Q E s := by
  have X := X₀.keeps F.keep
  have one : wpAny (model prog w) A (tryCompare (.ref x) "__ne__" b) (fun r s' => ∃ v, r = some v ∧ Q v s') E s := by
    unfold tryCompare
    refine wpAny_bind (ifBound_ne X I hne (call_ne hu X I ho hs hf (wpAny_mono h (fun v s' hv => ?_) fun _ _ e => e)))
    obtain ⟨r, rfl, q⟩ := hv
    exact ⟨r, rfl, wpAny_pure ⟨_, rfl, q⟩⟩
  unfold richCompare
  simp only [oneThing_ref]
  refine wpAny_holding (wpAny_bind (wpAny_cRoomFor (Nat.lt_of_succ_lt hu) ?_))
  refine wpAny_bind (I.type.here (wpAny_bind (hb.here ?_)))
  split
  · rename_i q
    have e : subIn K tb (.ref C) = some false := by
      rcases Bool.or_eq_true_iff.mp hn with e | e
      · rw [beq_iff_eq.mp e] at q; simp at q
      · exact beq_iff_eq.mp e
    refine wpAny_bind ((looks_subIn X e).here ?_)
    simp only [Bool.false_eq_true, if_false]
    refine wpAny_bind (wpAny_mono one (fun r s' z => ?_) fun _ _ e => e)
    obtain ⟨v, rfl, hq⟩ := z
    exact wpAny_pure hq
  · refine wpAny_bind (wpAny_pure ?_)
    simp only [Bool.false_eq_true, if_false]
    refine wpAny_bind (wpAny_mono one (fun r s' z => ?_) fun _ _ e => e)
    obtain ⟨v, rfl, hq⟩ := z
    exact wpAny_pure hq
end
/-- a function's promise kept below the running body -/
theorem run_sub {X : Cx} {CX : CXT} {k : Nat} {f : Addr} {fd : FuncData} {ps : List Str} {sp : Sp} {E : XK} {A : Around} (F : FnOk X.prog X.w X.K X.mg X.base CX k f fd ps sp) (sb : Sub X k A) (hb : L2.Binds X.K fd ps []) (hx : Passes CX X E)
    {pins : List (Addr × Obj)} {σ : L2.St} {H : Hp} {s : Shared} {Q : VK} {us : List Value} {vs : List V} (I : L2.Inv X pins σ H s) (r : Vals vs us) (h : sp vs H Q E) : wpAny (model X.prog X.w) A (call (.ref f) us) (EP X pins σ Q) X.xe s := by
  have hl := F.len _ _ _ _ h
  have e0 : Env0 X.prog X.w X.K X.mg X.base A X.stack s H := by
    have e := I.env0
    exact ⟨by rw [sb.fr]; exact e.frames, e.mod, e.bs, e.bsz, e.funs, e.frf, e.hok, e.bare⟩
  have hl2 : us.length = ps.length := by rw [← r.length]; exact hl
  refine wpAny_call (codeAny_mono (F.run A X.stack s H ⟨us, []⟩ us vs Q E sb.room e0 (by
    have := hb s us I.kIn (by simpa using hl2)
    simpa using this) r h) fun r s' hq => ?_)
  cases r with
  | error e => exact hx pins σ H s e s' I hq
  | ok fl =>
    cases fl with
    | ret u => exact I.after hq
    | next => exact False.elim hq
    | brk => exact False.elim hq
    | cont => exact False.elim hq
/-- what is known of a class with an own == and no own != -/
structure OwnEq (K : PySem.W.Frag) (C f : Addr) : Prop where
  eq : PySem.W.findIn K (.ref C) "__eq__" = some (some (.ref f))
  fn : PySem.W.isFn K (.ref f) = true
  ne : PySem.W.findIn K (.ref C) "__ne__" = some (some (.builtin "object.__ne__"))
  obj : PySem.W.subIn K (.ref C) (.type "object") = some true
/-- x == y of an instance x of C and any y whose class doesn't descend from C -/
def rOwnEq (K : PySem.W.Frag) (C : Addr) (sp : Sp) (E : XK) : R2 := fun x y H Q => ∃ a dx fs t, x = .ref a ∧ H a = some (.ins C dx fs) ∧ TyX K H y t ∧ PySem.W.notFirst K C t = true ∧ sp [.ref a, y] H Q E
def rOwnNe (K : PySem.W.Frag) (C : Addr) (sp : Sp) (E : XK) : R2 := fun x y H Q => ∃ a dx fs t, x = .ref a ∧ H a = some (.ins C dx fs) ∧ TyX K H y t ∧ PySem.W.notFirst K C t = true ∧ sp [.ref a, y] H (fun v H' => ∃ b, v = .bl b ∧ Q (.bl (!b)) H') E
section
variable {X : Cx} {CX : CXT} {k : Nat} {f C : Addr} {fd : FuncData} {ps : List Str} {sp : Sp} {E : XK}
theorem op_ownEq (O : OwnEq X.K C f) (F : FnOk X.prog X.w X.K X.mg X.base CX k f fd ps sp) (hr : Room k X.A) (hb : L2.Binds X.K fd ps []) (hx : Passes CX X E) : OpR X (compareOp .Eq) (rOwnEq X.K C sp E) := by
  intro pins s σ H x y v u Q I rx ry hq
  obtain ⟨a, dx, fs, t, rfl, ha, ty, nf, h⟩ := hq
  cases rx
  obtain ⟨mA, J, _⟩ := ins_get I.hok ha
  obtain ⟨od, J, _⟩ := J.look
  obtain ⟨m, hF⟩ := I.fr
  obtain ⟨P, Z, hP, _⟩ := kit_of I ry ty
  have run : wpAny (model X.prog X.w) X.A (call (.ref f) [.ref a, u]) (PySem.W.CmpBack (EP X pins σ Q)) X.xe s :=
    wpAny_mono (run_fn (us := [.ref a, u]) (vs := [.ref a, y]) F hr hb .nil hx I (.cons rfl (.cons ry .nil)) h) (fun _ _ q => cmpBack q) fun _ _ e => e
  show wpAny (model X.prog X.w) X.A (richCompare .Eq (.ref a) u) (EP X pins σ Q) X.xe s
  exact PySem.W.cmp_K (op := .Eq) hr.units0 hF I.ok.mod.kin J (Z.ty _ s.heap I.kIn hP) nf O.eq O.fn run
theorem op_ownNe (O : OwnEq X.K C f) (F : FnOk X.prog X.w X.K X.mg X.base CX k f fd ps sp) (hr : Room (k + 1) X.A) (hb : L2.Binds X.K fd ps []) (hx : Passes CX X E) : OpR X (compareOp .NotEq) (rOwnNe X.K C sp E) := by
  intro pins s σ H x y v u Q I rx ry hq
  obtain ⟨a, dx, fs, t, rfl, ha, ty, nf, h⟩ := hq
  cases rx
  obtain ⟨mA, J, _⟩ := ins_get I.hok ha
  obtain ⟨od, J, _⟩ := J.look
  obtain ⟨m, hF⟩ := I.fr
  obtain ⟨P, Z, hP, _⟩ := kit_of I ry ty
  have sb : Sub X k X.A.in1 := ⟨hr.in1, rfl⟩
  have run : wpAny (model X.prog X.w) X.A.in1 (call (.ref f) [.ref a, u]) (fun v s' => ∃ r, v = .bool r ∧ EP X pins σ Q (.bool (!r)) s') X.xe s :=
    wpAny_mono (run_sub (us := [.ref a, u]) (vs := [.ref a, y]) F sb hb hx I (.cons rfl (.cons ry .nil)) h) (fun v s' q => by
      obtain ⟨z, H', I', r, b, rfl, q⟩ := q
      cases r
      exact ⟨b, rfl, .bl (!b), H', I', rfl, q⟩) fun _ _ e => e
  show wpAny (model X.prog X.w) X.A (richCompare .NotEq (.ref a) u) (EP X pins σ Q) X.xe s
  exact rc_ne hr.in1.units0 hF I.ok.mod.kin J (Z.ty _ s.heap I.kIn hP) nf O.obj O.ne O.eq O.fn run
end

theorem dunder_mul : PySem.dunder "mul" = ("__mul__" : Str) := by decide +kernel
/-- what a head says of an own class with *, == and no reflected *, no != -/
def opsB (K : PySem.W.Frag) (owns : List Addr) (C : Addr) : Bool :=
  PySem.W.selfFirst K C && (decide (PySem.W.findIn K (.ref C) (dunderR "mul") = some none) && (decide (PySem.W.findIn K (.ref C) "__ne__" = some (some (.builtin "object.__ne__"))) && (decide (PySem.W.subIn K (.ref C) (.type "object") = some true) &&
  ((["NoneType", "int", "bool", "str", "list", "tuple"].all fun b => decide (PySem.W.subIn K (.type b) (.ref C) = some false)) && (owns.all fun D => decide (PySem.W.subIn K (.ref D) (.ref C) = some (decide (D = C))))))))
structure Ops (K : PySem.W.Frag) (owns : List Addr) (C : Addr) : Prop where
  first : PySem.W.selfFirst K C = true
  rmul : PySem.W.findIn K (.ref C) (dunderR "mul") = some none
  ne : PySem.W.findIn K (.ref C) "__ne__" = some (some (.builtin "object.__ne__"))
  obj : PySem.W.subIn K (.ref C) (.type "object") = some true
  tys : ∀ b ∈ ["NoneType", "int", "bool", "str", "list", "tuple"], PySem.W.subIn K (.type b) (.ref C) = some false
  own : ∀ D ∈ owns, PySem.W.subIn K (.ref D) (.ref C) = some (decide (D = C))
theorem ops_ok {K : PySem.W.Frag} {owns : List Addr} {C : Addr} (h : opsB K owns C = true) : Ops K owns C := by
  unfold opsB at h
  simp only [Bool.and_eq_true, decide_eq_true_eq, List.all_eq_true] at h
  obtain ⟨a, b, c, d, e, f⟩ := h
  exact ⟨a, b, c, d, e, f⟩
section
variable {K : PySem.W.Frag} {owns : List Addr} {C D f g : Addr}
theorem Ops.mul (o : Ops K owns C) (m : Meth K C "__mul__" f) : OwnOp K C "mul" f := ⟨o.first, by rw [dunder_mul]; exact m.at_, m.fn, o.rmul⟩
theorem Ops.eq (o : Ops K owns C) (m : Meth K C "__eq__" f) : OwnEq K C f := ⟨m.at_, m.fn, o.ne, o.obj⟩
theorem right_same : RightOf K C "mul" (.ref C) := .inl rfl
theorem Ops.right (o : Ops K owns C) (o2 : Ops K owns D) (m2 : Meth K D "__mul__" g) (hD : D ∈ owns) (ne : D ≠ C) : RightOf K C "mul" (.ref D) :=
  .inr ⟨true, true, ⟨Bool.eq_false_iff.mpr fun q => ne (by have := beq_iff_eq.mp q; injection this with this; exact this.symm), fun M h X => by
    obtain ⟨cd, rest, hcd, hm⟩ := PySem.W.ksp_first o2.first
    exact PySem.W.fills_K X hcd hm (o2.mul m2).find, by rw [o.own D hD, decide_eq_false ne], fun _ M h X => PySem.W.ksp_inPy X (o2.mul m2).find o2.rmul (.inl rfl), fun _ z => nomatch z⟩⟩
theorem Ops.rightT (o : Ops K owns C) {T : String} {fo ro : Option Value} (hT : T ∈ ["NoneType", "int", "bool", "str", "list", "tuple"]) (h1 : fastLookup T (PySem.dunder "mul") = some fo) (h2 : fastLookup T (dunderR "mul") = some ro) : RightOf K C "mul" (.type T) :=
  .inr ⟨_, false, ⟨Bool.eq_false_iff.mpr fun q => (nomatch beq_iff_eq.mp q), fun M h X => PySem.W.ksp_fillsT X h1 h2, o.tys T hT, fun _ M h X => PySem.W.Looks.of_pure rfl, fun _ _ => ⟨ro, h2⟩⟩⟩
theorem Ops.right_int (o : Ops K owns C) : RightOf K C "mul" (.type "int") := o.rightT (fo := some (.builtin "int.__mul__")) (ro := some (.builtin "int.__rmul__")) (by decide) (by kernel_rfl) (by kernel_rfl)
theorem Ops.right_none (o : Ops K owns C) : RightOf K C "mul" (.type "NoneType") := o.rightT (fo := none) (ro := none) (by decide) (by kernel_rfl) (by kernel_rfl)
theorem Ops.right_tuple (o : Ops K owns C) : RightOf K C "mul" (.type "tuple") := o.rightT (fo := some (.builtin "tuple.__mul__")) (ro := some (.builtin "tuple.__rmul__")) (by decide) (by kernel_rfl) (by kernel_rfl)
theorem Ops.right_list (o : Ops K owns C) : RightOf K C "mul" (.type "list") := o.rightT (fo := some (.builtin "list.__mul__")) (ro := some (.builtin "list.__rmul__")) (by decide) (by kernel_rfl) (by kernel_rfl)
theorem Ops.right_str (o : Ops K owns C) : RightOf K C "mul" (.type "str") := o.rightT (fo := some (.builtin "str.__mul__")) (ro := some (.builtin "str.__rmul__")) (by decide) (by kernel_rfl) (by kernel_rfl)
theorem Ops.notFirst (o : Ops K owns C) (hD : D ∈ owns) : PySem.W.notFirst K C (.ref D) = true := by
  unfold PySem.W.notFirst
  by_cases e : D = C
  · subst e
    simp
  · rw [o.own D hD, decide_eq_false e]
    simp
theorem Ops.notFirstT (o : Ops K owns C) {T : String} (hT : T ∈ ["NoneType", "int", "bool", "str", "list", "tuple"]) : PySem.W.notFirst K C (.type T) = true := by
  unfold PySem.W.notFirst
  rw [o.tys T hT]
  simp
end
end Lf

set_option Elab.async false
set_option linter.all false
set_option maxRecDepth 100000
set_option maxHeartbeats 0
namespace K16
open PySem PySem.Spec PyProof.Rows L2
def top (i : Nat) : Stmt := PySem.Challenge.pw_letterfolds_k16_products_turned_about.main.body.getD i (.Pass ⟨0, 0, 0, 0⟩)
abbrev s_is_number : Stmt := top 5
def d_is_number : He.DefD := ⟨("is_number", none), "is_number", "is_number", defArgs s_is_number, defBody s_is_number, defScope s_is_number, [], []⟩
abbrev s_is_between : Stmt := top 6
def d_is_between : He.DefD := ⟨("is_between", none), "is_between", "is_between", defArgs s_is_between, defBody s_is_between, defScope s_is_between, [], []⟩
abbrev s_is_sequence : Stmt := top 7
def d_is_sequence : He.DefD := ⟨("is_sequence", none), "is_sequence", "is_sequence", defArgs s_is_sequence, defBody s_is_sequence, defScope s_is_sequence, [], []⟩
abbrev s_is_word : Stmt := top 8
def d_is_word : He.DefD := ⟨("is_word", none), "is_word", "is_word", defArgs s_is_word, defBody s_is_word, defScope s_is_word, [.non], []⟩
abbrev s_FoldError_told : Stmt := inClass (top 10) 0
def d_FoldError_told : He.DefD := ⟨("FoldError", some "told"), "told", "FoldError.told", defArgs s_FoldError_told, defBody s_FoldError_told, defScope s_FoldError_told, [], []⟩
abbrev s_NoNumber_init : Stmt := inClass (top 11) 0
def d_NoNumber_init : He.DefD := ⟨("NoNumber", some "__init__"), "__init__", "NoNumber.__init__", defArgs s_NoNumber_init, defBody s_NoNumber_init, defScope s_NoNumber_init, [], []⟩
abbrev s_NoNumber_told : Stmt := inClass (top 11) 1
def d_NoNumber_told : He.DefD := ⟨("NoNumber", some "told"), "told", "NoNumber.told", defArgs s_NoNumber_told, defBody s_NoNumber_told, defScope s_NoNumber_told, [], []⟩
abbrev s_NoMonoid_init : Stmt := inClass (top 12) 0
def d_NoMonoid_init : He.DefD := ⟨("NoMonoid", some "__init__"), "__init__", "NoMonoid.__init__", defArgs s_NoMonoid_init, defBody s_NoMonoid_init, defScope s_NoMonoid_init, [], []⟩
abbrev s_NoMonoid_told : Stmt := inClass (top 12) 1
def d_NoMonoid_told : He.DefD := ⟨("NoMonoid", some "told"), "told", "NoMonoid.told", defArgs s_NoMonoid_told, defBody s_NoMonoid_told, defScope s_NoMonoid_told, [], []⟩
abbrev s_NoWord_init : Stmt := inClass (top 13) 0
def d_NoWord_init : He.DefD := ⟨("NoWord", some "__init__"), "__init__", "NoWord.__init__", defArgs s_NoWord_init, defBody s_NoWord_init, defScope s_NoWord_init, [], []⟩
abbrev s_NoWord_told : Stmt := inClass (top 13) 1
def d_NoWord_told : He.DefD := ⟨("NoWord", some "told"), "told", "NoWord.told", defArgs s_NoWord_told, defBody s_NoWord_told, defScope s_NoWord_told, [], []⟩
abbrev s_reached_from : Stmt := top 15
def d_reached_from : He.DefD := ⟨("reached_from", none), "reached_from", "reached_from", defArgs s_reached_from, defBody s_reached_from, defScope s_reached_from, [], []⟩
abbrev s_Monoid_init : Stmt := inClass (top 19) 0
def d_Monoid_init : He.DefD := ⟨("Monoid", some "__init__"), "__init__", "Monoid.__init__", defArgs s_Monoid_init, defBody s_Monoid_init, defScope s_Monoid_init, [], []⟩
abbrev s_Monoid_eq : Stmt := inClass (top 19) 1
def d_Monoid_eq : He.DefD := ⟨("Monoid", some "__eq__"), "__eq__", "Monoid.__eq__", defArgs s_Monoid_eq, defBody s_Monoid_eq, defScope s_Monoid_eq, [], []⟩
abbrev s_Monoid_size : Stmt := inClass (top 19) 2
def d_Monoid_size : He.DefD := ⟨("Monoid", some "size"), "size", "Monoid.size", defArgs s_Monoid_size, defBody s_Monoid_size, defScope s_Monoid_size, [], []⟩
abbrev s_Monoid_words : Stmt := inClass (top 19) 3
def d_Monoid_words : He.DefD := ⟨("Monoid", some "words"), "words", "Monoid.words", defArgs s_Monoid_words, defBody s_Monoid_words, defScope s_Monoid_words, [], []⟩
abbrev s_Monoid_left : Stmt := inClass (top 19) 4
def d_Monoid_left : He.DefD := ⟨("Monoid", some "left"), "left", "Monoid.left", defArgs s_Monoid_left, defBody s_Monoid_left, defScope s_Monoid_left, [], []⟩
abbrev s_Monoid_of_word : Stmt := inClass (top 19) 5
def d_Monoid_of_word : He.DefD := ⟨("Monoid", some "of_word"), "of_word", "Monoid.of_word", defArgs s_Monoid_of_word, defBody s_Monoid_of_word, defScope s_Monoid_of_word, [], []⟩
abbrev s_Monoid_times : Stmt := inClass (top 19) 6
def d_Monoid_times : He.DefD := ⟨("Monoid", some "times"), "times", "Monoid.times", defArgs s_Monoid_times, defBody s_Monoid_times, defScope s_Monoid_times, [], []⟩
abbrev s_Monoid_power : Stmt := inClass (top 19) 7
def d_Monoid_power : He.DefD := ⟨("Monoid", some "power"), "power", "Monoid.power", defArgs s_Monoid_power, defBody s_Monoid_power, defScope s_Monoid_power, [], []⟩
abbrev s_Monoid_cycle : Stmt := inClass (top 19) 8
def d_Monoid_cycle : He.DefD := ⟨("Monoid", some "cycle"), "cycle", "Monoid.cycle", defArgs s_Monoid_cycle, defBody s_Monoid_cycle, defScope s_Monoid_cycle, [], []⟩
abbrev s_Monoid_least_right : Stmt := inClass (top 19) 9
def d_Monoid_least_right : He.DefD := ⟨("Monoid", some "least_right"), "least_right", "Monoid.least_right", defArgs s_Monoid_least_right, defBody s_Monoid_least_right, defScope s_Monoid_least_right, [], []⟩
abbrev s_Monoid_least_left : Stmt := inClass (top 19) 10
def d_Monoid_least_left : He.DefD := ⟨("Monoid", some "least_left"), "least_left", "Monoid.least_left", defArgs s_Monoid_least_left, defBody s_Monoid_least_left, defScope s_Monoid_least_left, [], []⟩
abbrev s_Monoid_opposite : Stmt := inClass (top 19) 11
def d_Monoid_opposite : He.DefD := ⟨("Monoid", some "opposite"), "opposite", "Monoid.opposite", defArgs s_Monoid_opposite, defBody s_Monoid_opposite, defScope s_Monoid_opposite, [], []⟩
abbrev s_Monoid_turned : Stmt := inClass (top 19) 12
def d_Monoid_turned : He.DefD := ⟨("Monoid", some "turned"), "turned", "Monoid.turned", defArgs s_Monoid_turned, defBody s_Monoid_turned, defScope s_Monoid_turned, [], []⟩
abbrev s_Monoid_check_number : Stmt := inClass (top 19) 17
def d_Monoid_check_number : He.DefD := ⟨("Monoid", some "_check_number"), "_check_number", "Monoid._check_number", defArgs s_Monoid_check_number, defBody s_Monoid_check_number, defScope s_Monoid_check_number, [], []⟩
abbrev s_Monoid_check_word : Stmt := inClass (top 19) 18
def d_Monoid_check_word : He.DefD := ⟨("Monoid", some "_check_word"), "_check_word", "Monoid._check_word", defArgs s_Monoid_check_word, defBody s_Monoid_check_word, defScope s_Monoid_check_word, [], []⟩
abbrev s_numbered : Stmt := top 20
def d_numbered : He.DefD := ⟨("numbered", none), "numbered", "numbered", defArgs s_numbered, defBody s_numbered, defScope s_numbered, [], []⟩
abbrev s_check_form : Stmt := top 21
def d_check_form : He.DefD := ⟨("_check_form", none), "_check_form", "_check_form", defArgs s_check_form, defBody s_check_form, defScope s_check_form, [], []⟩
abbrev s_made_by : Stmt := top 22
def d_made_by : He.DefD := ⟨("_made_by", none), "_made_by", "_made_by", defArgs s_made_by, defBody s_made_by, defScope s_made_by, [], []⟩
abbrev s_left_table : Stmt := top 23
def d_left_table : He.DefD := ⟨("_left_table", none), "_left_table", "_left_table", defArgs s_left_table, defBody s_left_table, defScope s_left_table, [], []⟩
abbrev s_check_products : Stmt := top 24
def d_check_products : He.DefD := ⟨("_check_products", none), "_check_products", "_check_products", defArgs s_check_products, defBody s_check_products, defScope s_check_products, [], []⟩
abbrev s_letters_of : Stmt := top 25
def d_letters_of : He.DefD := ⟨("_letters_of", none), "_letters_of", "_letters_of", defArgs s_letters_of, defBody s_letters_of, defScope s_letters_of, [], []⟩
abbrev s_end : Stmt := top 26
def d_end : He.DefD := ⟨("_end", none), "_end", "_end", defArgs s_end, defBody s_end, defScope s_end, [], []⟩
abbrev s_least_ways : Stmt := top 27
def d_least_ways : He.DefD := ⟨("least_ways", none), "least_ways", "least_ways", defArgs s_least_ways, defBody s_least_ways, defScope s_least_ways, [.non], []⟩
abbrev s_products_from : Stmt := top 28
def d_products_from : He.DefD := ⟨("_products_from", none), "_products_from", "_products_from", defArgs s_products_from, defBody s_products_from, defScope s_products_from, [], []⟩
abbrev s_powers : Stmt := top 29
def d_powers : He.DefD := ⟨("_powers", none), "_powers", "_powers", defArgs s_powers, defBody s_powers, defScope s_powers, [], []⟩
abbrev s_L_source : Stmt := top 31
def d_L_source : He.DefD := ⟨("_law_source", none), "_law_source", "_law_source", defArgs s_L_source, defBody s_L_source, defScope s_L_source, [], []⟩
abbrev s_L_draw : Stmt := top 32
def d_L_draw : He.DefD := ⟨("_law_draw", none), "_law_draw", "_law_draw", defArgs s_L_draw, defBody s_L_draw, defScope s_L_draw, [], []⟩
abbrev s_L_pick : Stmt := top 33
def d_L_pick : He.DefD := ⟨("_law_pick", none), "_law_pick", "_law_pick", defArgs s_L_pick, defBody s_L_pick, defScope s_L_pick, [], []⟩
abbrev s_L_maps : Stmt := top 34
def d_L_maps : He.DefD := ⟨("_law_maps", none), "_law_maps", "_law_maps", defArgs s_L_maps, defBody s_L_maps, defScope s_L_maps, [], []⟩
abbrev s_L_table : Stmt := top 35
def d_L_table : He.DefD := ⟨("_law_table", none), "_law_table", "_law_table", defArgs s_L_table, defBody s_L_table, defScope s_L_table, [], []⟩
abbrev s_L_opposite : Stmt := top 36
def d_L_opposite : He.DefD := ⟨("_law_opposite", none), "_law_opposite", "_law_opposite", defArgs s_L_opposite, defBody s_L_opposite, defScope s_L_opposite, [], []⟩
abbrev s_L_pairs_right : Stmt := top 37
def d_L_pairs_right : He.DefD := ⟨("_law_pairs_right", none), "_law_pairs_right", "_law_pairs_right", defArgs s_L_pairs_right, defBody s_L_pairs_right, defScope s_L_pairs_right, [], []⟩
abbrev s_L_right : Stmt := top 38
def d_L_right : He.DefD := ⟨("_law_right", none), "_law_right", "_law_right", defArgs s_L_right, defBody s_L_right, defScope s_L_right, [], []⟩
abbrev s_L_far_tables : Stmt := top 39
def d_L_far_tables : He.DefD := ⟨("_law_far_tables", none), "_law_far_tables", "_law_far_tables", defArgs s_L_far_tables, defBody s_L_far_tables, defScope s_L_far_tables, [], []⟩
abbrev s_L_far_right : Stmt := top 40
def d_L_far_right : He.DefD := ⟨("_law_far_right", none), "_law_far_right", "_law_far_right", defArgs s_L_far_right, defBody s_L_far_right, defScope s_L_far_right, [], []⟩
abbrev s_law : Stmt := top 41
def d_law : He.DefD := ⟨("law", none), "law", "law", defArgs s_law, defBody s_law, defScope s_law, [], []⟩
def fn : List He.DefD := [d_is_number, d_is_between, d_is_sequence, d_is_word, d_FoldError_told, d_NoNumber_init, d_NoNumber_told, d_NoMonoid_init, d_NoMonoid_told, d_NoWord_init, d_NoWord_told, d_reached_from, d_Monoid_init, d_Monoid_eq, d_Monoid_size, d_Monoid_words, d_Monoid_left, d_Monoid_of_word, d_Monoid_times, d_Monoid_power, d_Monoid_cycle, d_Monoid_least_right, d_Monoid_least_left, d_Monoid_opposite, d_Monoid_turned, d_Monoid_check_number, d_Monoid_check_word, d_numbered, d_check_form, d_made_by, d_left_table, d_check_products, d_letters_of, d_end, d_least_ways, d_products_from, d_powers, d_L_source, d_L_draw, d_L_pick, d_L_maps, d_L_table, d_L_opposite, d_L_pairs_right, d_L_right, d_L_far_tables, d_L_far_right, d_law]
def fa : List He.Fa := [.glo "FoldError", .glo "NoNumber", .glo "NoMonoid", .glo "NoWord", .glo "Monoid", .glo "is_number", .glo "is_between", .glo "is_sequence", .glo "is_word", .glo "reached_from", .glo "numbered", .glo "_check_form", .glo "_made_by", .glo "_left_table", .glo "_check_products", .glo "_letters_of", .glo "_end", .glo "least_ways", .glo "_products_from", .glo "_powers", .glo "_law_source", .glo "_law_draw", .glo "_law_pick", .glo "_law_maps", .glo "_law_table", .glo "_law_opposite", .glo "_law_pairs_right", .glo "_law_right", .glo "_law_far_tables", .glo "_law_far_right", .glo "law", .int "MOST_SIZE" 2000, .int "MOST_WORD" 100, .str "LETTERS" "abcdef", .str "SIGNS" "abcdefghijklmnopqrst", .free "ValueError", .free "abs", .free "all", .free "bool", .free "enumerate", .free "int", .free "isinstance", .free "len", .free "list", .free "range", .free "repr", .free "str", .free "tuple", .free "zip", .cls "Monoid", .mkr "Monoid", .meth "Monoid" "__eq__", .meth "Monoid" "size", .meth "Monoid" "words", .meth "Monoid" "left", .meth "Monoid" "of_word", .meth "Monoid" "times", .meth "Monoid" "power", .meth "Monoid" "cycle", .meth "Monoid" "least_right", .meth "Monoid" "least_left", .meth "Monoid" "opposite", .meth "Monoid" "turned", .meth "Monoid" "_check_number", .meth "Monoid" "_check_word", .noat "Monoid" "right", .noat "Monoid" "_made", .noat "Monoid" "_left", .meth "NoNumber" "told", .meth "NoMonoid" "told", .meth "NoWord" "told", .exm "NoNumber" "FoldError" true, .exm "NoNumber" "NoNumber" true, .exm "NoNumber" "NoMonoid" false, .exm "NoNumber" "NoWord" false, .exm "NoMonoid" "FoldError" true, .exm "NoMonoid" "NoNumber" false, .exm "NoMonoid" "NoMonoid" true, .exm "NoMonoid" "NoWord" false, .exm "NoWord" "FoldError" true, .exm "NoWord" "NoNumber" false, .exm "NoWord" "NoMonoid" false, .exm "NoWord" "NoWord" true, .int "MOST_COUNT" 1000000000000000000000000000000]
def inis : List (Str × List Str) := [("NoNumber", ["number"]), ("NoMonoid", ["what", "place"]), ("NoWord", ["word"])]
def bares : List Str := []
def owns : List Str := ["Monoid"]
def opsl : List Str := ["Monoid"]
def iniB (K : PySem.W.Frag) (p : Str × List Str) : Bool := Lf.errB K (He.ga K p.1) && (decide (PySem.W.findIn K (.ref (He.ga K p.1)) "__init__" = some (some (.ref (He.ma K (He.ga K p.1) "__init__")))) &&
  (decide (PySem.W.typeIn K (.ref (He.ma K (He.ga K p.1) "__init__")) = some (.type "function")) && (p.2.all fun f => decide (PySem.W.findIn K (.ref (He.ga K p.1)) f = some none))))
def isB (K : PySem.W.Frag) (x : Str) : Bool := decide (PySem.W.kitOne K (.ref (He.ga K x)) (.ref (He.ga K "FoldError")) = some true)
/-- an own class among all: what isinstance says of its instances, and of others -/
def ownB (K : PySem.W.Frag) (x : Str) : Bool := decide (PySem.W.findIn K (.ref (He.ga K x)) "__class__" = some (some (.builtin "object.__class__"))) && (decide (PySem.W.specialIn K (.builtin "object.__class__") "__get__" = some (some (.builtin "getset_descriptor.__get__"))) &&
  (decide (PySem.W.takesIn K (.builtin "object.__class__") = some true) && (decide (PySem.W.mroIn K (He.ga K x) (.type "object") = some true) &&
  ((["int", "bool", "str", "list", "tuple"].all fun b => decide (PySem.W.kitOne K (.ref (He.ga K x)) (.type b) = some false)) && ((["NoneType", "int", "bool", "str", "list", "tuple", "dict"].all fun b => decide (PySem.W.kitOne K (.type b) (.ref (He.ga K x)) = some false)) &&
  owns.all fun y => decide (PySem.W.kitOne K (.ref (He.ga K x)) (.ref (He.ga K y)) = some (decide (x = y))))))))
def ex (K : PySem.W.Frag) : Bool := (inis.all fun p => iniB K p && isB K p.1) && ((bares.all fun x => Lf.errB K (He.ga K x) && isB K x) && ((owns.all fun x => ownB K x) && opsl.all fun x => Lf.opsB K (owns.map fun y => He.ga K y) (He.ga K x)))
def loose : List Str := (["_wall", "is_number", "is_between", "is_sequence", "is_word", "FoldError", "NoNumber", "NoMonoid", "NoWord", "reached_from", "Monoid", "numbered", "_check_form", "_made_by", "_left_table", "_check_products", "_letters_of", "_end", "least_ways", "_products_from", "_powers", "_law_source", "_law_draw", "_law_pick", "_law_maps", "_law_table", "_law_opposite", "_law_pairs_right", "_law_right", "_law_far_tables"] : List Str) ++ (["_law_far_right", "LETTERS", "SIGNS", "MOST_COUNT", "MOST_SIZE", "MOST_WORD"] : List Str)
def tf : List He.Defn := []
end K16

set_option Elab.async false
set_option linter.all false
set_option maxRecDepth 100000
set_option maxHeartbeats 8000000
namespace K16
open PySem PySem.Spec PyProof.Rows L2 Lf
/-- a list or a tuple of xs at a -/
def Sq (K : PySem.W.Frag) (H : Hp) (a : Addr) (xs : List V) : Prop := SqL K H a xs ∨ SqT K H a xs
theorem Sq.same {K : PySem.W.Frag} {H H' : Hp} {a : Addr} {xs : List V} (h : Sq K H a xs) (e : Same H H') : Sq K H' a xs := h.imp (L2.Same.seq e) (Lf.SqT.same e)
theorem tyx_l {K : PySem.W.Frag} {H : Hp} {a : Addr} {xs : List V} (h : SqL K H a xs) : TyX K H (.ref a) (.type "list") := by
  rcases h with (h | ⟨o, h⟩) | ⟨o, its, n, hk, hc, _⟩
  · exact .base (.lst h)
  · exact .base (.frz h)
  · exact .kList hk hc
theorem tyx_t {K : PySem.W.Frag} {H : Hp} {a : Addr} {xs : List V} (h : SqT K H a xs) : TyX K H (.ref a) (.type "tuple") := by
  rcases h with (h | ⟨o, h⟩) | ⟨o, its, n, hk, hc, _⟩
  · exact .base (.tup h)
  · exact .fTuple h
  · exact .kTuple hk hc
theorem any_lt {K : PySem.W.Frag} : PySem.W.kitAny K (.type "list") [.type "list", .type "tuple"] = some true ∧ PySem.W.kitAny K (.type "tuple") [.type "list", .type "tuple"] = some true :=
  ⟨kitAny_cons (kit_ty (b := "list") (r := true) (by decide +kernel)) (fun h => nomatch h) (fun _ => rfl),
   kitAny_cons (kit_ty (b := "list") (r := false) (by decide +kernel)) (fun _ => kitAny_cons (kit_ty (b := "tuple") (r := true) (by decide +kernel)) (fun h => nomatch h) (fun _ => rfl)) (fun h => nomatch h)⟩
/-- whether it is an int; of what a row may hold -/
def Flat : V → Prop
  | .non => True
  | .bl _ => True
  | .int _ => True
  | .str _ => True
  | _ => False
def isNum : V → Bool
  | .int _ => true
  | _ => false
def ofInt : V → Bool
  | .int _ => true
  | .bl _ => true
  | _ => false
def ofBool : V → Bool
  | .bl _ => true
  | _ => false
theorem flat_ty {K : PySem.W.Frag} {H : Hp} {x : V} (h : Flat x) : ∃ n, TyX K H x (.type n) ∧ PySem.W.kitOne K (.type n) (.type "int") = some (ofInt x) ∧ PySem.W.kitOne K (.type n) (.type "bool") = some (ofBool x) := by
  cases x with
  | non => exact ⟨_, .base .non, kit_ty (show kitB "NoneType" "int" = some false by decide +kernel), kit_ty (show kitB "NoneType" "bool" = some false by decide +kernel)⟩
  | bl b => exact ⟨_, .base (.bl b), kit_ty (show kitB "bool" "int" = some true by decide +kernel), kit_ty (show kitB "bool" "bool" = some true by decide +kernel)⟩
  | int i => exact ⟨_, .base (.int i), kit_ty (show kitB "int" "int" = some true by decide +kernel), kit_ty (show kitB "int" "bool" = some false by decide +kernel)⟩
  | str s => exact ⟨_, .base (.str s), kit_ty (show kitB "str" "int" = some false by decide +kernel), kit_ty (show kitB "str" "bool" = some false by decide +kernel)⟩
  | byt _ => exact h.elim
  | flt _ => exact h.elim
  | ref _ => exact h.elim
  | ty _ => exact h.elim
def spNum : Sp := fun vs H Q _ => ∃ x, vs = [x] ∧ Flat x ∧ Q (.bl (isNum x)) H
/-- thing between least and most -/
def btw (lo hi : Int) : V → Bool
  | .int i => decide (lo ≤ i) && decide (i ≤ hi)
  | _ => false
def spBtw : Sp := fun vs H Q _ => ∃ x lo hi, vs = [x, .int lo, .int hi] ∧ Flat x ∧ Q (.bl (btw lo hi x)) H
def spSeq (K : PySem.W.Frag) : Sp := fun vs H Q _ => ∃ a xs lo hi, vs = [.ref a, .int lo, .int hi] ∧ Sq K H a xs ∧ ∀ H', Same H H' → Q (.bl (decide (lo ≤ (xs.length : Int)) && decide ((xs.length : Int) ≤ hi))) H'
section
variable {P : Program} {w : World} {K : PySem.W.Frag} {mg : Str → Option Value} {base : Heap}
theorem scNum : FnScope ["thing"] ["thing"] (defScope s_is_number) := ⟨rfl, rfl, rfl, by decide +kernel, rfl, by decide +kernel, by decide +kernel⟩
theorem ok_num {f : Addr} {fd : FuncData} {q : Str} (F : FunD K "is_number" q (defArgs s_is_number) (defBody s_is_number) (defScope s_is_number) [] [] f fd) (zI : mg "isinstance" = none) (zi : mg "int" = none) (zb : mg "bool" = none) :
    FnOk P w K mg base CX0 1 f fd ["thing"] spNum := by
  refine F.ok scNum (fun vs H Q E h => ?_) (fun cdv A outer s H vs Q E hr h => ?_)
  · obtain ⟨x, rfl, _⟩ := h
    rfl
  · obtain ⟨x, rfl, fx, k⟩ := h
    refine ⟨_, PSs.nox (pss_one (ps_ret (pe_and (pe_callB call_isi rfl zI PyProof.Rows.boot_isinstance (pa_cons (pv 0) (pa_cons (pe_bltn (v := .ty "int") rfl zi PyProof.Rows.boot_int rfl) pa_nil)))
      (pe_one (pe_not (pe_callB call_isi rfl zI PyProof.Rows.boot_isinstance (pa_cons (pv 0) (pa_cons (pe_bltn (v := .ty "bool") rfl zb PyProof.Rows.boot_bool rfl) pa_nil)))))))), ?_⟩
    obtain ⟨n, ty, k1, k2⟩ := flat_ty (K := K) (H := H) fx
    refine ⟨_, rfl, x, .ty "int", _, _, _, rfl, .ty _, ty, k1, _, rfl, ?_⟩
    cases x with
    | int i => exact ⟨_, rfl, _, .ty "bool", _, _, _, rfl, .ty _, ty, k2, _, rfl, k⟩
    | bl b => exact ⟨_, rfl, _, .ty "bool", _, _, _, rfl, .ty _, ty, k2, _, rfl, k⟩
    | non => exact k
    | str s => exact k
    | byt _ => exact fx.elim
    | flt _ => exact fx.elim
    | ref _ => exact fx.elim
    | ty _ => exact fx.elim
theorem scBtw : FnScope ["thing", "least", "most"] ["thing", "least", "most"] (defScope s_is_between) := ⟨rfl, rfl, rfl, by decide +kernel, rfl, by decide +kernel, by decide +kernel⟩
theorem ok_btw {f : Addr} {fd : FuncData} {q : Str} (F : FunD K "is_between" q (defArgs s_is_between) (defBody s_is_between) (defScope s_is_between) [] [] f fd) (DN : Def P w K mg base CX0 1 "is_number" ["thing"] spNum) :
    FnOk P w K mg base CX0 2 f fd ["thing", "least", "most"] spBtw := by
  refine F.ok scBtw (fun vs H Q E h => ?_) (fun cdv A outer s H vs Q E hr h => ?_)
  · obtain ⟨x, lo, hi, rfl, _⟩ := h
    rfl
  · obtain ⟨x, lo, hi, rfl, fx, k⟩ := h
    refine ⟨_, PSs.nox (pss_one (ps_ret (pe_and (pe_def DN hr pass0 rfl (pa_cons (pv 0) pa_nil)) (pe_one (pe_chain op_le op_le (pv 1) (pv 0) (pv 2)))))), ?_⟩
    refine ⟨_, rfl, x, rfl, fx, _, rfl, ?_⟩
    cases x with
    | int i =>
      refine ⟨_, rfl, _, rfl, _, _, rfl, rfl, _, rfl, ?_⟩
      refine ite2 (fun c => ⟨_, rfl, _, _, rfl, rfl, ?_⟩) (fun c => ?_)
      · have z : btw lo hi (.int i) = decide (i ≤ hi) := by show (decide (lo ≤ i) && decide (i ≤ hi)) = _; rw [c]; rfl
        rw [z] at k
        exact k
      · have z : btw lo hi (.int i) = false := by
          show (decide (lo ≤ i) && decide (i ≤ hi)) = false
          cases h : decide (lo ≤ i) with
          | true => exact absurd h c
          | false => rfl
        rw [z] at k
        exact k
    | bl b => exact k
    | non => exact k
    | str s => exact k
    | byt _ => exact fx.elim
    | flt _ => exact fx.elim
    | ref _ => exact fx.elim
    | ty _ => exact fx.elim
theorem scSeq : FnScope ["thing", "least", "most"] ["thing", "least", "most"] (defScope s_is_sequence) := ⟨rfl, rfl, rfl, by decide +kernel, rfl, by decide +kernel, by decide +kernel⟩
theorem ok_seq {f : Addr} {fd : FuncData} {q : Str} (F : FunD K "is_sequence" q (defArgs s_is_sequence) (defBody s_is_sequence) (defScope s_is_sequence) [] [] f fd) (zI : mg "isinstance" = none) (zl : mg "list" = none) (zt : mg "tuple" = none) (zn : mg "len" = none) :
    FnOk P w K mg base CX0 1 f fd ["thing", "least", "most"] (spSeq K) := by
  refine F.ok scSeq (fun vs H Q E h => ?_) (fun cdv A outer s H vs Q E hr h => ?_)
  · obtain ⟨a, xs, lo, hi, rfl, _⟩ := h
    rfl
  · obtain ⟨a, xs, lo, hi, rfl, sq, k⟩ := h
    refine ⟨_, PSs.nox (pss_one (ps_ret (pe_and (pe_callB call_isiT rfl zI PyProof.Rows.boot_isinstance (pa_cons (pv 0) (pa_cons (pe_tup (pa_cons (pe_bltn (v := .ty "list") rfl zl PyProof.Rows.boot_list rfl) (pa_cons (pe_bltn (v := .ty "tuple") rfl zt PyProof.Rows.boot_tuple rfl) pa_nil))) pa_nil)))
      (pe_one (pe_chain op_le op_le (pv 1) (pe_callB call_len_seq rfl zn boot_len (pa_cons (pv 0) pa_nil)) (pv 2)))))), ?_⟩
    refine ⟨_, rfl, (by show 2 ≤ sizeLine; decide), fun p np => ?_⟩
    have sm := same_upd (o := .tup [.ty "list", .ty "tuple"]) np
    have sq' := sq.same sm
    have ty : ∃ t, TyX K (upd H p (.tup [.ty "list", .ty "tuple"])) (.ref a) t ∧ PySem.W.kitAny K t [.type "list", .type "tuple"] = some true := by
      rcases sq' with z | z
      · exact ⟨_, tyx_l z, any_lt.1⟩
      · exact ⟨_, tyx_t z, any_lt.2⟩
    obtain ⟨t, ty, ka⟩ := ty
    refine ⟨.ref a, p, _, t, _, true, rfl, upd_same, .cons (.ty _) (.cons (.ty _) .nil), ty, ka, true, rfl, ?_⟩
    refine ifT rfl ⟨_, rfl, _, rfl, a, xs, rfl, sq', _, _, rfl, rfl, _, rfl, ?_⟩
    have kk := k _ sm
    refine ite2 (fun c => ⟨_, rfl, _, _, rfl, rfl, ?_⟩) (fun c => ?_)
    · rw [c] at kk
      exact kk
    · have z : decide (lo ≤ (xs.length : Int)) = false := by
        cases h : decide (lo ≤ (xs.length : Int)) with
        | true => exact absurd h c
        | false => rfl
      rw [z] at kk
      exact kk
end
end K16

set_option Elab.async false
set_option linter.all false
set_option maxRecDepth 100000
set_option maxHeartbeats 8000000
namespace K16
open PySem PySem.Spec PyProof.Rows L2 Lf
/-- a source of draws of which at most n were mixed -/
def Src (H : Hp) (l : Addr) (n : Nat) : Prop := ∃ a b c : Int, H l = some (.lst [.int a, .int b, .int c]) ∧ 0 ≤ a ∧ (0 ≤ b ∧ b < 2147483587) ∧ 0 ≤ c ∧ c ≤ n
theorem yesT {σ : L2.St} {H : Hp} {A B : Hp → Prop} (h : A H) : tYes σ H fun b H3 => if b = true then A H3 else B H3 := by
  show if true = true then A H else B H
  rw [if_pos rfl]
  exact h
theorem Src.up {H : Hp} {l : Addr} {n m : Nat} (h : Src H l n) (e : n ≤ m) : Src H l m := by
  obtain ⟨a, b, c, h1, h2, h3, h4, h5⟩ := h
  exact ⟨a, b, c, h1, h2, h3, h4, by omega⟩
theorem Src.same {H H' : Hp} {l : Addr} {n : Nat} (h : Src H l n) (e : Same H H') : Src H' l n := by
  obtain ⟨a, b, c, h1, h2⟩ := h
  exact ⟨a, b, c, e _ _ h1, h2⟩
theorem great_div {a m : Int} (m0 : 0 < m) (m1 : m ≤ 1000000000000000000000000000000) : CDivW a m := by
  have e : (2 : Nat) ^ 100 = 1267650600228229401496703205376 := by decide +kernel
  refine wide_div (b := 100) m0 ?_ (by decide) (by decide)
  rw [e]
  omega
def spSource : Sp := fun vs H Q _ => ∃ n : Int, vs = [.int n] ∧ ∀ l H', H l = none → Same H H' → Src H' l 0 → Q (.ref l) H'
def spDraw : Sp := fun vs H Q _ => ∃ (l : Addr) (n : Nat) (m : Int), vs = [.ref l, .int m] ∧ Src H l n ∧ n ≤ 1000000 ∧ 0 < m ∧ m ≤ 1000000000000000000000000000000 ∧ ∀ (k : Int) H', 0 ≤ k → k < m → But l H H' → Src H' l (n + 1) → Q (.int k) H'
section
variable {P : Program} {w : World} {K : PySem.W.Frag} {mg : Str → Option Value} {base : Heap}
theorem scSource : FnScope ["_law_cell"] ["_law_cell"] (defScope s_L_source) := ⟨rfl, rfl, rfl, by decide +kernel, rfl, by decide +kernel, by decide +kernel⟩
theorem ok_source {f : Addr} {fd : FuncData} {q : Str} (F : FunD K "_law_source" q (defArgs s_L_source) (defBody s_L_source) (defScope s_L_source) [] [] f fd) (zA : mg "abs" = none) (zI : mg "int" = none) :
    FnOk P w K mg base CX0 1 f fd ["_law_cell"] spSource := by
  refine F.ok scSource (fun vs H Q E h => ?_) (fun cdv A outer s H vs Q E hr h => ?_)
  · obtain ⟨n, rfl, _⟩ := h
    rfl
  · obtain ⟨n, rfl, k⟩ := h
    refine ⟨_, PSs.nox (pss_cons (ps_set (i := 0) scSource.nd rfl (.inl rfl) (pe_callB call_abs rfl zA boot_abs (pa_cons (pv 0) pa_nil)))
      (pss_one (ps_ret (pe_lst (pa_cons (pe_op op_mul (pv 0) (pe_callTy call_int1 rfl zI boot_int (pa_cons (pe_cmpR op_ge (pv 0) (pe_op op_pow pe_int pe_int) (nomark _)) pa_nil)))
        (pa_cons (pe_op op_mod (pe_callTy call_int1 rfl zI boot_int (pa_cons (pv 0) pa_nil)) pe_int)
        (pa_cons pe_int pa_nil))))))), ?_⟩
    refine ⟨_, rfl, n, rfl, ?_⟩
    have nn : 0 ≤ (if n < 0 then -n else n) := by split <;> omega
    generalize (if n < 0 then -n else n) = a at nn ⊢
    refine ⟨_, rfl, _, rfl, 10, 18, rfl, rfl, ⟨by decide, by decide, by decide⟩, a, _, rfl, rfl, .inr ⟨_, rfl, a, _, rfl, rfl, .inr ?_, ?_⟩⟩
    · split <;> decide
    refine ⟨_, rfl, .inl ⟨a, rfl, a, 2147483587, rfl, rfl, (show (0 : Int) < 2147483587 by decide), ?_⟩⟩
    refine ⟨(by show 3 ≤ sizeLine; decide), fun l hl => k l _ hl (same_upd hl) ⟨_, _, _, upd_same, ?_, ?_, by decide, by decide⟩⟩
    · split
      · omega
      · simp
    · constructor <;> omega
theorem scDraw : FnScope ["_law_source_here", "_law_many", "_law_digit", "_law_mixed"] ["_law_source_here", "_law_many"] (defScope s_L_draw) := ⟨rfl, rfl, rfl, by decide +kernel, rfl, by decide +kernel, by decide +kernel⟩
theorem ok_draw {f : Addr} {fd : FuncData} {q : Str} (F : FunD K "_law_draw" q (defArgs s_L_draw) (defBody s_L_draw) (defScope s_L_draw) [] [] f fd) (zI : mg "int" = none) :
    FnOk P w K mg base CX0 1 f fd ["_law_source_here", "_law_many"] spDraw := by
  refine F.ok scDraw (fun vs H Q E h => ?_) (fun cdv A outer s H vs Q E hr h => ?_)
  · obtain ⟨l, n, m, rfl, _⟩ := h
    rfl
  · obtain ⟨l, n, m, rfl, ⟨a, b, c, hl, ha, ⟨hb1, hb2⟩, hc1, hc2⟩, n1, m0, m1, k⟩ := h
    have gI (i : Int) := i
    refine ⟨_, PSs.nox (pss_cons (ps_if (pt_cmpR op_gt (pe_ix ix_list (pv 0) pe_int (fun _ _ => rfl)) pe_int (nomark _))
        (pss_cons (ps_set (i := 2) scDraw.nd rfl (.inl rfl) (pe_op op_mod (pe_callTy call_int1 rfl zI boot_int (pa_cons (pe_ix ix_list (pv 0) pe_int (fun _ _ => rfl)) pa_nil)) (pv 1)))
        (pss_cons (ps_asg (pe_op op_fdivW (pe_ix ix_list (pv 0) pe_int (fun _ _ => rfl)) (pv 1)) (pg_sub (pv 0) pe_int set_list))
        (pss_one (ps_ret (pv 2))))) pss_nil)
      (pss_cons (ps_asg (pe_op op_add (pe_ix ix_list (pv 0) pe_int (fun _ _ => rfl)) pe_int) (pg_sub (pv 0) pe_int set_list))
      (pss_cons (ps_set (i := 3) scDraw.nd rfl (.inl rfl) (pe_op op_mod (pe_callTy call_int1 rfl zI boot_int (pa_cons (pe_op op_mul (pe_op op_add (pe_op op_add (pe_ix ix_list (pv 0) pe_int (fun _ _ => rfl)) (pe_op op_mul pe_int (pe_ix ix_list (pv 0) pe_int (fun _ _ => rfl)))) pe_int) pe_int) pa_nil)) pe_int))
      (pss_cons (ps_set (i := 3) scDraw.nd rfl (.inl rfl) (pe_op op_mod (pe_callTy call_int1 rfl zI boot_int (pa_cons (pe_op op_mul (pv 3) (pe_op op_add (pe_op op_fdiv (pv 3) pe_int) pe_int)) pa_nil)) pe_int))
      (pss_one (ps_ret (pe_op op_mod (pe_callTy call_int1 rfl zI boot_int (pa_cons (pe_op op_fdiv (pe_op op_mod (pe_callTy call_int1 rfl zI boot_int (pa_cons (pe_op op_mul (pv 3) (pe_op op_add (pe_op op_fdiv (pv 3) pe_int) pe_int)) pa_nil)) pe_int) pe_int) pa_nil)) (pv 1)))))))), ?_⟩
    have at0 : atI [V.int a, V.int b, V.int c] 0 = some (.int a) := rfl
    refine ⟨_, rfl, l, _, 0, _, rfl, rfl, SqL.of hl, at0, a, 0, rfl, rfl, _, rfl, ?_⟩
    refine ite2 (fun h0 => ?_) (fun h0 => ?_)
    · refine ⟨_, rfl, l, _, 0, _, rfl, rfl, SqL.of hl, at0, .inl ⟨a, rfl, _, rfl, a, m, rfl, rfl, m0, ?_⟩⟩
      refine ⟨_, rfl, l, _, 0, _, rfl, rfl, SqL.of hl, at0, _, rfl, a, m, rfl, rfl, great_div m0 m1, ?_⟩
      refine ⟨_, rfl, l, _, 0, 0, rfl, rfl, hl, rfl, ?_⟩
      exact ⟨_, rfl, k _ _ (Int.emod_nonneg _ (by omega)) (Int.emod_lt_of_pos _ m0) But.upd ⟨_, b, c, upd_same, Int.ediv_nonneg ha (by omega), ⟨hb1, hb2⟩, hc1, by omega⟩⟩
    · have at2 : atI [V.int a, V.int b, V.int c] 2 = some (.int c) := rfl
      have at1' : atI [V.int a, V.int b, V.int (c + 1)] 1 = some (.int b) := rfl
      have at2' : atI [V.int a, V.int b, V.int (c + 1)] 2 = some (.int (c + 1)) := rfl
      refine ⟨_, rfl, l, _, 2, _, rfl, rfl, SqL.of hl, at2, c, 1, rfl, rfl, _, rfl, l, _, 2, 2, rfl, rfl, hl, rfl, ?_⟩
      have hl' : L2.upd H l (.lst [V.int a, V.int b, V.int (c + 1)]) l = some (.lst [V.int a, V.int b, V.int (c + 1)]) := upd_same
      have bt : But l H (L2.upd H l (.lst [V.int a, V.int b, V.int (c + 1)])) := But.upd
      refine ⟨_, rfl, l, _, 1, _, rfl, rfl, SqL.of hl', at1', _, rfl, l, _, 2, _, rfl, rfl, SqL.of hl', at2', 7919, (c + 1), rfl, rfl, .inl ⟨by omega, by omega⟩, b, _, rfl, rfl, _, 13, rfl, rfl, _, 48271, rfl, rfl, .inl ⟨by omega, by omega⟩, .inl ⟨_, rfl, _, 2147483629, rfl, rfl, (show (0 : Int) < 2147483629 by decide), ?_⟩⟩
      generalize hz : (b + 7919 * (c + 1) + 13) * 48271 = z
      have z1 : 0 ≤ z % 2147483629 := Int.emod_nonneg _ (by decide)
      have z2 : z % 2147483629 < 2147483629 := Int.emod_lt_of_pos _ (by decide)
      obtain ⟨u, hu⟩ : ∃ u, z % 2147483629 = u := ⟨_, rfl⟩
      rw [hu] at z1 z2
      refine ⟨_, rfl, _, rfl, u, 1019, congrArg V.int hu, rfl, ⟨by decide, by decide⟩, _, 69621, rfl, rfl, u, _, congrArg V.int hu, rfl, .inl ⟨by omega, by omega⟩, .inl ⟨_, rfl, _, 2147483579, rfl, rfl, (show (0 : Int) < 2147483579 by decide), ?_⟩⟩
      generalize hy : u * (u / 1019 + 69621) = y
      have y1 : 0 ≤ y % 2147483579 := Int.emod_nonneg _ (by decide)
      have y2 : y % 2147483579 < 2147483579 := Int.emod_lt_of_pos _ (by decide)
      obtain ⟨v, hv⟩ : ∃ v, y % 2147483579 = v := ⟨_, rfl⟩
      rw [hv] at y1 y2
      refine ⟨_, rfl, _, rfl, v, 2003, congrArg V.int hv, rfl, ⟨by decide, by decide⟩, _, 40692, rfl, rfl, v, _, congrArg V.int hv, rfl, .inl ⟨by omega, by omega⟩, .inl ⟨_, rfl, _, 2147483549, rfl, rfl, (show (0 : Int) < 2147483549 by decide), ?_⟩⟩
      refine ⟨_, 3, rfl, rfl, ⟨by decide, by decide⟩, .inl ⟨_, rfl, _, rfl, _, m, rfl, rfl, m0, ?_⟩⟩
      exact k _ _ (Int.emod_nonneg _ (by omega)) (Int.emod_lt_of_pos _ m0) But.upd ⟨a, b, c + 1, upd_same, ha, ⟨hb1, hb2⟩, by omega, by omega⟩
end
end K16

set_option Elab.async false
set_option linter.all false
set_option maxRecDepth 100000
set_option maxHeartbeats 8000000
namespace K16
open PySem PySem.Spec PyProof.Rows L2 Lf
/-- what the head says, for one module -/
structure Txt (P : Program) (w : World) (K : PySem.W.Frag) (mg : Str → Option Value) (base : Heap) : Prop where
  d : He.SaysD fa fn K
  m : ex K = true
  gl : ∀ (i : Nat) (x : Str), fa[i]? = some (.glo x) → mg x = some (.ref (He.ga K x))
  fr : ∀ (i : Nat) (x : Str), fa[i]? = some (.free x) → mg x = none
  it : ∀ (i : Nat) (x : Str) (v : Int), fa[i]? = some (.int x v) → ∃ t, mg x = some (.int v t)
  st : ∀ (i : Nat) (x v : Str), fa[i]? = some (.str x v) → ∃ t, mg x = some (.str v t)
theorem pe_gstr {X : Cx} {x v : Str} {t : Tok} {pos : Pos} (hg : Gl X x) (hm : X.mg x = some (.str v t)) (hd : (x == ("__debug__" : Str)) = false := by decide +kernel) : PE X (.Name x pos) (tC (.str v)) := pe_glob hg hm ⟨t, rfl⟩ hd
/-- numbers as values -/
abbrev nv (i : Nat) : V := .int (i : Nat)
/-- the rows at r: lists -/
structure RowsL (K : PySem.W.Frag) (H : Hp) (r : Addr) (rows : List (List Nat)) : Prop where
  ex : ∃ as : List Addr, SqL K H r (as.map V.ref) ∧ as.length = rows.length ∧ ∀ (i : Nat) a row, as[i]? = some a → rows[i]? = some row → SqL K H a (row.map nv)
/-- .. tuples -/
structure RowsT (K : PySem.W.Frag) (H : Hp) (r : Addr) (rows : List (List Nat)) : Prop where
  ex : ∃ as : List Addr, SqT K H r (as.map V.ref) ∧ as.length = rows.length ∧ ∀ (i : Nat) a row, as[i]? = some a → rows[i]? = some row → SqT K H a (row.map nv)
theorem RowsL.same {K : PySem.W.Frag} {H H' : Hp} {r : Addr} {rows : List (List Nat)} (h : RowsL K H r rows) (e : Same H H') : RowsL K H' r rows := by
  obtain ⟨as, a, b, c⟩ := h.ex
  exact ⟨as, L2.Same.seq e a, b, fun i x row h1 h2 => L2.Same.seq e (c i x row h1 h2)⟩
theorem RowsT.same {K : PySem.W.Frag} {H H' : Hp} {r : Addr} {rows : List (List Nat)} (h : RowsT K H r rows) (e : Same H H') : RowsT K H' r rows := by
  obtain ⟨as, a, b, c⟩ := h.ex
  exact ⟨as, Lf.SqT.same e a, b, fun i x row h1 h2 => Lf.SqT.same e (c i x row h1 h2)⟩
theorem map_get {α β : Type} {f : α → β} {l : List α} {i : Nat} {y : β} (h : (l.map f)[i]? = some y) : ∃ a, l[i]? = some a ∧ y = f a := by
  rw [List.getElem?_map] at h
  cases e : l[i]? with
  | none => rw [e] at h; cases h
  | some a => rw [e] at h; exact ⟨a, rfl, (Option.some.inj h).symm⟩
theorem get_map {α β : Type} {f : α → β} {l : List α} {i : Nat} {a : α} (h : l[i]? = some a) : (l.map f)[i]? = some (f a) := by rw [List.getElem?_map, h]; rfl
theorem get_lt {α : Type} {l : List α} {i : Nat} {a : α} (h : l[i]? = some a) : i < l.length := (List.getElem?_eq_some_iff.mp h).1
theorem lt_get {α : Type} {l : List α} {i : Nat} (h : i < l.length) : ∃ a, l[i]? = some a := ⟨_, List.getElem?_eq_getElem h⟩
theorem seq_dec {lo hi : Int} {n : Nat} (a : lo ≤ (n : Int)) (b : (n : Int) ≤ hi) : (decide (lo ≤ (n : Int)) && decide ((n : Int) ≤ hi)) = true := by
  rw [decide_eq_true a, decide_eq_true b]
  rfl
theorem btw_nv {i n : Nat} (h : i < n) : btw 0 ((n : Int) - 1) (nv i) = true := by
  show (decide ((0 : Int) ≤ (i : Nat)) && decide (((i : Nat) : Int) ≤ (n : Int) - 1)) = true
  rw [decide_eq_true (by omega), decide_eq_true (by omega)]
  rfl
theorem all_true {n : Nat} : (List.replicate n true).all id = true := by
  rw [List.all_eq_true]
  intro x hx
  exact (List.mem_replicate.mp hx).2
/-- the form of a table -/
def Form (rows : List (List Nat)) (w : Nat) : Prop := 1 ≤ rows.length ∧ rows.length ≤ 2000 ∧ 1 ≤ w ∧ w ≤ 6 ∧ ∀ row ∈ rows, row.length = w ∧ ∀ t ∈ row, t < rows.length
def spForm (K : PySem.W.Frag) : Sp := fun vs H Q _ => ∃ r rows w, vs = [.ref r] ∧ RowsL K H r rows ∧ Form rows w ∧ ∀ H', Same H H' → Q .non H'
abbrev rLenS (K : PySem.W.Frag) : List V → Hp → VK → Prop := fun xs H Q => ∃ p ys, xs = [V.ref p] ∧ (SqL K H p ys ∨ SqT K H p ys) ∧ Q (V.int ys.length) H
abbrev teForm (K : PySem.W.Frag) : TE := fun σ H Q => (tCons (tVar 3) (tCons (tC (.int 0)) (tCons (tOp (rI0 fun i j => .int (i - j)) (tCB (rLenS K) (tCons (tVar 0) tNil)) (tC (.int 1))) tNil))) σ H fun vs H1 => spBtw vs H1 Q E0
section
variable {P : Program} {w : World} {K : PySem.W.Frag} {mg : Str → Option Value} {base : Heap}
theorem scForm : FnScope ["right", "place", "row", "entry"] ["right"] (defScope s_check_form) := ⟨rfl, rfl, rfl, by decide +kernel, rfl, by decide +kernel, by decide +kernel⟩
theorem ok_form {f : Addr} {fd : FuncData} {q : Str} (F : FunD K "_check_form" q (defArgs s_check_form) (defBody s_check_form) (defScope s_check_form) [] [] f fd) (T : Txt P w K mg base)
    (DS : Def P w K mg base CX0 1 "is_sequence" ["thing", "least", "most"] (spSeq K)) (DB : Def P w K mg base CX0 2 "is_between" ["thing", "least", "most"] spBtw) :
    FnOk P w K mg base CX0 3 f fd ["right"] (spForm K) := by
  obtain ⟨tM, gM⟩ := T.it 31 "MOST_SIZE" 2000 rfl
  obtain ⟨tL, gL⟩ := T.st 33 "LETTERS" "abcdef" rfl
  have zE : mg "enumerate" = none := T.fr 39 "enumerate" rfl
  have zn : mg "len" = none := T.fr 42 "len" rfl
  have za : mg "all" = none := T.fr 37 "all" rfl
  refine F.ok scForm (fun vs H Q E h => ?_) (fun cdv A outer s H vs Q E hr h => ?_)
  · obtain ⟨r, rows, wd, rfl, _⟩ := h
    rfl
  · obtain ⟨r, rows, wd, rfl, R, ⟨n1, n2, w1, w6, row⟩, k⟩ := h
    have r1 : Room 1 _ := hr.mono (by decide)
    refine ⟨_, PSs.nox (pss_cons (ps_if (pt_not (pt_val (pe_def DS r1 pass0 rfl (pa_cons (pv 0) (pa_cons pe_int (pa_cons (pe_gint rfl gM) pa_nil)))))) (pss_one ps_never) pss_nil)
      (pss_one (ps_for PassesOwn.never rfl (pi_enumA rfl zE (pv 0)) (pg_tup rfl (pgs_cons (pg_name (i := 1) scForm.nd rfl (.inl rfl)) (pgs_cons (pg_name (i := 2) scForm.nd rfl (.inl rfl)) pgs_nil)))
        (pss_cons (ps_if (PW.pt (pw_or (pt_not (pt_val (pe_def DS r1 pass0 rfl (pa_cons (pv 2) (pa_cons pe_int (pa_cons (pe_callB call_len_str rfl zn boot_len (pa_cons (pe_gstr rfl gL) pa_nil)) pa_nil))))))
            (pw_or1 (pt_cmpR op_ne (pe_callB call_len_seq rfl zn boot_len (pa_cons (pv 2) pa_nil)) (pe_callB call_len_seq rfl zn boot_len (pa_cons (pe_ix ix_list (pv 0) pe_int (fun _ _ => rfl)) pa_nil)) (nomark _))))) (pss_one ps_never) pss_nil)
        (pss_one (ps_if (pt_not (pt_val (pe_callB (cr_all rfl) rfl za (by decide +kernel) (pa_cons (pe_lc (own := [("entry", 3)]) (g := gName 3) (te := teForm K) (by rfl) scForm.nd (pi_list (pv 2)) (blkOk_by (own := [("entry", 3)]) (N := ["right", "place", "row", "entry"]) (sc := defScope s_check_form) (by decide +kernel)) (fun _ _ _ _ _ => pg_name (i := 3) scForm.nd rfl (Or.inl rfl)) (fun _ _ _ _ _ => pts_nil)
            (fun _ _ _ _ _ => by exact pe_def DB hr pass0 rfl (pa_cons (pv 3) (pa_cons pe_int (pa_cons (pe_op op_sub (pe_callB call_len_seq rfl zn boot_len (pa_cons (pv 0) pa_nil)) pe_int) pa_nil))))) pa_nil)))) (pss_one ps_never) pss_nil)))))), ?_⟩
    obtain ⟨as, sr, la, srow⟩ := R.ex
    have ln : (as.map V.ref).length = rows.length := by rw [List.length_map, la]
    refine ⟨_, rfl, r, as.map V.ref, 1, 2000, rfl, .inl sr, fun H1 s1 => ⟨_, rfl, ?_⟩⟩
    rw [seq_dec (by omega) (by omega)]
    refine ifF rfl ?_
    refine ⟨_, rfl, r, as.map V.ref, rfl, .inl ⟨L2.Same.seq s1 sr, ?_⟩⟩
    have wk : Walk (Ite K r) (as.map V.ref).length (fun H2 => Same H H2) (fun i H v H' => ∃ T x, v = .ref T ∧ H T = none ∧ H' = L2.upd H T (.tup [.int (i : Nat), x]) ∧ (as.map V.ref)[i]? = some x) := (walk_enumL (xs := as.map V.ref)).mono (fun H s => L2.Same.seq s sr) (fun i H x H' _ _ y => y)
    refine for_it wk (fun i σ H2 => ∃ v1 v2 : Option V, σ = [some (.ref r), v1, v2, none] ∧ Same H H2) ⟨none, none, rfl, s1⟩ (fun i σ H2 _ ⟨_, _, _, s⟩ => s) ?_ ?_
    · rintro i x σ H2 H3 hi ⟨v1, v2, rfl, s2⟩ ⟨T', y, rfl, nT, rfl, hy⟩
      obtain ⟨a, ha, rfl⟩ := map_get hy
      have hi2 : i < rows.length := by rw [← ln]; exact hi
      obtain ⟨rw_, hrw⟩ := lt_get hi2
      have sa := srow i a rw_ ha hrw
      obtain ⟨lw, ent⟩ := row rw_ (List.mem_of_getElem? hrw)
      refine ⟨T', _, rfl, SqT.of upd_same, rfl, _, _, rfl, _, _, rfl, rfl, ?_⟩
      have s3 := s2.trans (same_upd (o := .tup [.int (i : Nat), .ref a]) nT)
      generalize L2.upd H2 T' (.tup [.int (i : Nat), .ref a]) = H3 at s3 ⊢
      refine ⟨_, rfl, _, rfl, (by decide +kernel), a, rw_.map nv, 1, 6, rfl, .inl (L2.Same.seq s3 sa), fun H4 s4 => ⟨_, rfl, ?_⟩⟩
      rw [List.length_map, seq_dec (by omega) (by omega)]
      refine ifF rfl ?_
      have s5 := s3.trans s4
      obtain ⟨a0, h0⟩ := lt_get (show 0 < as.length by omega)
      obtain ⟨rw0, hrw0⟩ := lt_get (show 0 < rows.length by omega)
      have lw0 := (row rw0 (List.mem_of_getElem? hrw0)).1
      refine ⟨_, rfl, a, rw_.map nv, rfl, .inl (L2.Same.seq s5 sa), _, rfl, r, as.map V.ref, 0, .ref a0, rfl, rfl, L2.Same.seq s5 sr, ?_, a0, rw0.map nv, rfl, .inl (L2.Same.seq s5 (srow 0 a0 rw0 h0 hrw0)), rfl, _, rfl, ?_⟩
      · exact atI_nat (j := 0) (get_map h0)
      refine ifF (by simp [lw, lw0]) ?_
      refine ⟨_, rfl, a, rfl, ⟨_, L2.Same.seq s5 sa⟩, fun D nD => ?_⟩
      refine lc_list (K := K) (a := a) (xs := rw_.map nv) (fun j Hc => But D H4 Hc ∧ Hc D = some (.lst (List.replicate j (V.bl true)))) ⟨But.upd, upd_same⟩ (fun j Hc _ ⟨bc, _⟩ => L2.Same.seq (Same.but (L2.Same.refl _) nD bc) (L2.Same.seq s5 sa)) (fun j z Hc hz ⟨bc, hD⟩ => ?_) (fun Hc ⟨bc, hD⟩ => ?_)
      · obtain ⟨t, ht, rfl⟩ := map_get hz
        refine ⟨rfl, yesT ?_⟩
        have sc := s5.trans (Same.but (L2.Same.refl _) nD bc)
        refine ⟨_, rfl, _, rfl, r, as.map V.ref, rfl, .inl (L2.Same.seq sc sr), _, 1, rfl, rfl, nv t, 0, _, rfl, True.intro, ?_⟩
        rw [ln, btw_nv (ent t (List.mem_of_getElem? ht))]
        refine ⟨_, hD, ?_, But.trans bc But.upd, ?_⟩
        · rw [List.length_replicate]
          have := get_lt ht
          show j < 16777216
          omega
        · rw [upd_same, List.replicate_succ']
      · rw [List.length_map] at hD
        have sc := s5.trans (Same.but (L2.Same.refl _) nD bc)
        refine ⟨D, List.replicate rw_.length true, rfl, SqL.of (by rw [List.map_replicate]; exact hD), ?_⟩
        rw [all_true]
        refine ⟨_, rfl, ?_⟩
        exact ifF rfl ⟨_, _, rfl, sc⟩
    · rintro σ H2 ⟨v1, v2, rfl, s2⟩
      exact k _ s2
end
end K16

set_option Elab.async false
set_option linter.all false
set_option maxRecDepth 100000
set_option maxHeartbeats 8000000
namespace K16
open PySem PySem.Spec PyProof.Rows L2 Lf
/-- how the elements are made: a tuple of None and pairs -/
structure MadeT (K : PySem.W.Frag) (H : Hp) (t : Addr) (m : List (Nat × Nat)) : Prop where
  ex : ∃ ps : List Addr, SqT K H t (.non :: ps.map V.ref) ∧ ps.length = m.length ∧ ∀ (k : Nat) a p, ps[k]? = some a → m[k]? = some p → SqT K H a [nv p.1, nv p.2]
theorem MadeT.same {K : PySem.W.Frag} {H H' : Hp} {t : Addr} {m : List (Nat × Nat)} (h : MadeT K H t m) (e : Same H H') : MadeT K H' t m := by
  obtain ⟨ps, a, b, c⟩ := h.ex
  exact ⟨ps, Lf.SqT.same e a, b, fun k x p h1 h2 => Lf.SqT.same e (c k x p h1 h2)⟩
/-- .. the list that grows -/
def MadeL (H : Hp) (M : Addr) (m : List (Nat × Nat)) : Prop := ∃ ps : List Addr, H M = some (.lst (.non :: ps.map V.ref)) ∧ ps.length = m.length ∧ ∀ (k : Nat) a p, ps[k]? = some a → m[k]? = some p → H a = some (.tup [nv p.1, nv p.2])
theorem MadeL.same {H H' : Hp} {M : Addr} {m : List (Nat × Nat)} (h : MadeL H M m) (e : Same H H') : MadeL H' M m := by
  obtain ⟨ps, a, b, c⟩ := h
  exact ⟨ps, e _ _ a, b, fun k x p h1 h2 => e _ _ (c k x p h1 h2)⟩
def spMade (K : PySem.W.Frag) : Sp := fun vs H Q _ => ∃ r rows m, vs = [.ref r] ∧ RowsT K H r rows ∧ Mon.madeTab 0 rows [] = some m ∧ m.length ≤ 2000 ∧ ∀ t H', Same H H' → MadeT K H' t m → Q (.ref t) H'
theorem len_grow {rows : List (List Nat)} {m m' : List (Nat × Nat)} {i : Nat} (h : Mon.madeTab 0 rows [] = some m) (h' : Mon.madeTab 0 (rows.take i) [] = some m') : m'.length ≤ m.length := by
  have e := List.take_append_drop i rows
  rw [← e, Mon.madeTab_app, h', Option.bind_some] at h
  obtain ⟨x, hx, _⟩ := Mon.madeTab_ok h
  rw [hx, List.length_append]
  omega
theorem len_growR {row : List Nat} {m m2 m' : List (Nat × Nat)} {i c : Nat} (h : Mon.madeRow i 0 row m = some m2) (h' : Mon.madeRow i 0 (row.take c) m = some m') : m'.length ≤ m2.length := by
  have e := List.take_append_drop c row
  rw [← e, Mon.madeRow_app, h', Option.bind_some] at h
  obtain ⟨x, hx, _⟩ := Mon.madeRow_ok h
  rw [hx, List.length_append]
  omega
section
variable {P : Program} {w : World} {K : PySem.W.Frag} {mg : Str → Option Value} {base : Heap}
theorem scMade : FnScope ["right", "made", "number", "row", "letter", "reached"] ["right"] (defScope s_made_by) := ⟨rfl, rfl, rfl, by decide +kernel, rfl, by decide +kernel, by decide +kernel⟩
theorem ok_made {f : Addr} {fd : FuncData} {q : Str} (F : FunD K "_made_by" q (defArgs s_made_by) (defBody s_made_by) (defScope s_made_by) [] [] f fd) (T : Txt P w K mg base) :
    FnOk P w K mg base CX0 1 f fd ["right"] (spMade K) := by
  have zE : mg "enumerate" = none := T.fr 39 "enumerate" rfl
  have zn : mg "len" = none := T.fr 42 "len" rfl
  have zt : mg "tuple" = none := T.fr 47 "tuple" rfl
  refine F.ok scMade (fun vs H Q E h => ?_) (fun cdv A outer s H vs Q E hr h => ?_)
  · obtain ⟨r, rows, m, rfl, _⟩ := h
    rfl
  · obtain ⟨r, rows, m, rfl, R, hm, lm, k⟩ := h
    refine ⟨_, PSs.nox (pss_cons (ps_set (i := 1) scMade.nd rfl (.inl rfl) (pe_lst (pa_cons pe_non pa_nil)))
      (pss_cons (ps_for PassesOwn.never rfl (pi_enumA rfl zE (pv 0)) (pg_tup rfl (pgs_cons (pg_name (i := 2) scMade.nd rfl (.inl rfl)) (pgs_cons (pg_name (i := 3) scMade.nd rfl (.inl rfl)) pgs_nil)))
        (pss_cons (ps_if (pt_cmpR op_ge (pv 2) (pe_callB call_len_seq rfl zn boot_len (pa_cons (pv 1) pa_nil)) (nomark _)) (pss_one ps_never) pss_nil)
        (pss_one (ps_for PassesOwn.never rfl (pi_enumA rfl zE (pv 3)) (pg_tup rfl (pgs_cons (pg_name (i := 4) scMade.nd rfl (.inl rfl)) (pgs_cons (pg_name (i := 5) scMade.nd rfl (.inl rfl)) pgs_nil)))
          (pss_cons (ps_if (pt_cmpR op_gt (pv 5) (pe_callB call_len_seq rfl zn boot_len (pa_cons (pv 1) pa_nil)) (nomark _)) (pss_one ps_never) pss_nil)
          (pss_one (ps_if (pt_cmpR op_eq (pv 5) (pe_callB call_len_seq rfl zn boot_len (pa_cons (pv 1) pa_nil)) (nomark _))
            (pss_one (ps_expr (pe_bm PySem.F.plainAttrs_list PySem.F.slot_list_append PySem.F.type_list_append mt_append (pv 1) (pa_cons (pe_tup (pa_cons (pv 2) (pa_cons (pv 4) pa_nil))) pa_nil)))) pss_nil)))))))
      (pss_one (ps_ret (pe_callTy call_tuple_of rfl zt PyProof.Rows.boot_tuple (pa_cons (pv 1) pa_nil)))))), ?_⟩
    obtain ⟨as, sr, la, srow⟩ := R.ex
    have ln : (as.map V.ref).length = rows.length := by rw [List.length_map, la]
    refine ⟨(by show 1 ≤ sizeLine; decide), fun M nM => ?_⟩
    have s1 := same_upd (o := .lst [V.non]) nM
    have m1 : MadeL (L2.upd H M (.lst [V.non])) M [] := ⟨[], upd_same, rfl, fun k a p h => by simp at h⟩
    generalize L2.upd H M (.lst [V.non]) = H1 at s1 m1 ⊢
    refine ⟨_, rfl, r, as.map V.ref, rfl, .inr ⟨Lf.SqT.same s1 sr, ?_⟩⟩
    have wk : Walk (Itet K r) (as.map V.ref).length (fun H2 => Same H H2) (fun i H v H' => ∃ T x, v = .ref T ∧ H T = none ∧ H' = L2.upd H T (.tup [.int (i : Nat), x]) ∧ (as.map V.ref)[i]? = some x) := (walk_enumT (xs := as.map V.ref)).mono (fun H s => Lf.SqT.same s sr) (fun i H x H' _ _ y => y)
    refine for_it wk (fun i σ H2 => ∃ v2 v3 v4 v5 : Option V, σ = [some (.ref r), some (.ref M), v2, v3, v4, v5] ∧ Same H H2 ∧ ∃ m', Mon.madeTab 0 (rows.take i) [] = some m' ∧ MadeL H2 M m') ⟨none, none, none, none, rfl, s1, [], by simp [Mon.madeTab], m1⟩ (fun i σ H2 _ ⟨_, _, _, _, _, s, _⟩ => s) ?_ ?_
    · rintro i x σ H2 H3 hi ⟨v2, v3, v4, v5, rfl, s2, m', hm', ml⟩ ⟨T', y, rfl, nT, rfl, hy⟩
      obtain ⟨a, ha, rfl⟩ := map_get hy
      have hi2 : i < rows.length := by rw [← ln]; exact hi
      obtain ⟨row, hrow⟩ := lt_get hi2
      have sa := srow i a row ha hrow
      obtain ⟨m0, e0, i0, m2, e2, e3⟩ := Mon.madeTab_at hm hrow
      rw [hm'] at e0
      cases e0
      have l2 := len_grow hm e3
      refine ⟨T', _, rfl, SqT.of upd_same, rfl, _, _, rfl, _, _, rfl, rfl, ?_⟩
      have u3 := same_upd (o := .tup [.int (i : Nat), .ref a]) nT
      have s3 := s2.trans u3
      have ml3 := ml.same u3
      generalize L2.upd H2 T' (.tup [.int (i : Nat), .ref a]) = H3 at s3 ml3 ⊢
      clear u3 ml
      obtain ⟨ps, hM, lp, _⟩ := id ml3
      refine ⟨_, rfl, _, rfl, M, _, rfl, .inl (SqL.of hM), _, _, rfl, rfl, _, rfl, ?_⟩
      refine ifF (by rw [decide_eq_false]; simp; omega) ?_
      clear hM lp
      have sa3 := Lf.SqT.same s3 sa
      refine ⟨_, rfl, a, row.map nv, rfl, .inr ⟨sa3, ?_⟩⟩
      have wk2 : Walk (Itet K a) (row.map nv).length (fun H2 => Same H H2) (fun i H v H' => ∃ T x, v = .ref T ∧ H T = none ∧ H' = L2.upd H T (.tup [.int (i : Nat), x]) ∧ (row.map nv)[i]? = some x) := (walk_enumT (xs := row.map nv)).mono (fun H s => Lf.SqT.same s sa) (fun i H x H' _ _ y => y)
      refine for_it wk2 (fun j σ H4 => ∃ v4 v5 : Option V, σ = [some (.ref r), some (.ref M), some (nv i), some (.ref a), v4, v5] ∧ Same H H4 ∧ ∃ m'', Mon.madeRow i 0 (row.take j) m' = some m'' ∧ MadeL H4 M m'') ⟨_, _, rfl, s3, m', by simp [Mon.madeRow], ml3⟩ (fun j σ H4 _ ⟨_, _, _, s, _⟩ => s) ?_ ?_
      · rintro j x σ H4 H5 hj ⟨v4, v5, rfl, s4, m4, hm4, ml4⟩ ⟨T2, y, rfl, nT2, rfl, hy2⟩
        obtain ⟨t, ht, rfl⟩ := map_get hy2
        obtain ⟨m5, e5, t5, e6⟩ := Mon.madeRow_at e2 ht
        rw [hm4] at e5
        cases e5
        have l4 := len_growR e2 hm4
        refine ⟨T2, _, rfl, SqT.of upd_same, rfl, _, _, rfl, _, _, rfl, rfl, ?_⟩
        have u5 := same_upd (o := .tup [.int (j : Nat), nv t]) nT2
        have s5 := s4.trans u5
        have ml5 := ml4.same u5
        generalize L2.upd H4 T2 (.tup [.int (j : Nat), nv t]) = H5 at s5 ml5 ⊢
        clear u5 ml4
        obtain ⟨ps, hM, lp, pp⟩ := id ml5
        have len : (V.non :: ps.map V.ref).length = m4.length + 1 := by rw [List.length_cons, List.length_map, lp]
        refine ⟨_, rfl, _, rfl, M, _, rfl, .inl (SqL.of hM), _, _, rfl, rfl, _, rfl, ?_⟩
        refine ifF (by rw [decide_eq_false]; rw [len]; omega) ?_
        refine ⟨_, rfl, _, rfl, M, _, rfl, .inl (SqL.of hM), rfl, _, rfl, ?_⟩
        refine ite2 (fun c => ?_) (fun c => ?_)
        · have ct : t = m4.length + 1 := by
            have := of_decide_eq_true c
            rw [len] at this
            injection this with this
            omega
          rw [if_pos ct] at e6
          refine ⟨_, rfl, .inl ⟨rfl, _, SqL.of hM⟩, _, rfl, _, rfl, (by show 2 ≤ sizeLine; decide), fun N nN => ?_⟩
          have u6 := same_upd (o := .tup [nv i, nv j]) nN
          have hN : L2.upd H5 N (.tup [nv i, nv j]) N = some (.tup [nv i, nv j]) := upd_same
          have s6 := s5.trans u6
          have hM6 := u6 _ _ hM
          have pp6 : ∀ (k : Nat) a p, ps[k]? = some a → m4[k]? = some p → L2.upd H5 N (.tup [nv i, nv j]) a = some (.tup [nv p.1, nv p.2]) := fun k a p h1 h2 => u6 _ _ (pp k a p h1 h2)
          have nMN : N ≠ M := fun z => by rw [z, hM] at nN; cases nN
          generalize L2.upd H5 N (.tup [nv i, nv j]) = H6 at s6 hM6 pp6 hN ⊢
          refine ⟨M, _, _, rfl, rfl, hM6, by rw [len]; show m4.length + 1 < 16777216; omega, _, _, rfl, fun b o e => ?_, _, e6, ps ++ [N], ?_, by simp [lp], fun k a p h1 h2 => ?_⟩
          · rw [upd_ne (ne_of_none e nM)]
            exact s6 _ _ e
          · rw [upd_same]
            simp
          · by_cases hk : k < ps.length
            · rw [List.getElem?_append_left hk] at h1
              rw [List.getElem?_append_left (by omega)] at h2
              have := pp6 k a p h1 h2
              rw [upd_ne (fun z => by rw [z, hM6] at this; cases this)]
              exact this
            · have hk2 : k = ps.length := by
                have := get_lt h1
                rw [List.length_append, List.length_singleton] at this
                omega
              rw [hk2, List.getElem?_append_right (Nat.le_refl _), Nat.sub_self] at h1
              rw [hk2, lp, List.getElem?_append_right (Nat.le_refl _), Nat.sub_self] at h2
              cases h1
              cases h2
              rw [upd_ne nMN]
              exact hN
        · have ct : t ≠ m4.length + 1 := fun z => c (by
            rw [len, z]
            exact decide_eq_true rfl)
          rw [if_neg ct] at e6
          exact ⟨_, _, rfl, s5, _, e6, ml5⟩
      · rintro σ H4 ⟨v4, v5, rfl, s4, m4, hm4, ml4⟩
        rw [List.length_map, List.take_length, e2] at hm4
        cases hm4
        exact ⟨_, _, _, _, rfl, s4, _, e3, ml4⟩
    · rintro σ H2 ⟨v2, v3, v4, v5, rfl, s2, m', hm', ps, hM, lp, pp⟩
      rw [ln, List.take_length, hm] at hm'
      cases hm'
      refine ⟨_, rfl, M, _, rfl, .inl ⟨SqL.of hM, fun t nt => ?_⟩⟩
      have u3 := same_upd (o := .tup (V.non :: ps.map V.ref)) nt
      exact k t _ (s2.trans u3) ⟨ps, SqT.of upd_same, lp, fun k a p h1 h2 => SqT.of (u3 _ _ (pp k a p h1 h2))⟩
end
end K16

set_option Elab.async false
set_option linter.all false
set_option maxRecDepth 100000
set_option maxHeartbeats 8000000
namespace K16
open PySem PySem.Spec PyProof.Rows L2 Lf
theorem sIx1 {n : Nat} : HT.sIx (n + 1) 0 (some 1) = 1 := by
  unfold HT.sIx
  simp
theorem cut1 {x : V} {r : List V} : cutV (x :: r) (some 1) none = r := by
  unfold cutV
  rw [List.length_cons, sIx1]
  simp [HT.sIx]
def spLeft (K : PySem.W.Frag) : Sp := fun vs H Q _ => ∃ r t rows m, vs = [.ref r, .ref t] ∧ RowsT K H r rows ∧ MadeT K H t m ∧ rows ≠ [] ∧ m.length ≤ 2000 ∧ (∀ (k : Nat) p, m[k]? = some p → p.1 < k + 1 ∧ ∀ row ∈ rows, p.2 < row.length) ∧
  (∀ (i k : Nat) l, (Mon.leftTab rows (m.take i))[k]? = some l → l.length ≤ 2000 ∧ ∀ x ∈ l, x < rows.length) ∧ ∀ q H', Same H H' → RowsT K H' q (Mon.leftTab rows m) → Q (.ref q) H'
abbrev teLeft (K : PySem.W.Frag) : TE := tOp (rIxT K) (tOp (rIxT K) (tVar 0) (tVar 5)) (tVar 4)
/-- rows[x][c] -/
theorem ix2 {K : PySem.W.Frag} {H : Hp} {r : Addr} {as : List Addr} {rows : List (List Nat)} (sr : SqT K H r (as.map V.ref)) (la : as.length = rows.length) (srow : ∀ (i : Nat) a row, as[i]? = some a → rows[i]? = some row → SqT K H a (row.map nv)) {x c : Nat} (hx : x < rows.length) (hc : ∀ row ∈ rows, c < row.length) {Q : VK}
    (k : Q (nv ((rows.getD x []).getD c 0)) H) : rIxT K (.ref r) (nv x) H fun y H' => rIxT K y (nv c) H' Q := by
  obtain ⟨a, ha⟩ := lt_get (show x < as.length by omega)
  obtain ⟨row, hrow⟩ := lt_get hx
  obtain ⟨t, ht⟩ := lt_get (hc row (List.mem_of_getElem? hrow))
  rw [Mon.getD_of hrow, Mon.getD_of ht] at k
  exact ⟨r, as.map V.ref, _, .ref a, rfl, rfl, sr, atI_nat (get_map ha), a, row.map nv, _, nv t, rfl, rfl, srow x a row ha hrow, atI_nat (get_map ht), k⟩
section
variable {P : Program} {w : World} {K : PySem.W.Frag} {mg : Str → Option Value} {base : Heap}
theorem scLeft : FnScope ["right", "made", "table", "before", "letter", "number"] ["right", "made"] (defScope s_left_table) := ⟨rfl, rfl, rfl, by decide +kernel, rfl, by decide +kernel, by decide +kernel⟩
theorem ok_left {f : Addr} {fd : FuncData} {q : Str} (F : FunD K "_left_table" q (defArgs s_left_table) (defBody s_left_table) (defScope s_left_table) [] [] f fd) (T : Txt P w K mg base) :
    FnOk P w K mg base CX0 1 f fd ["right", "made"] (spLeft K) := by
  have zt : mg "tuple" = none := T.fr 47 "tuple" rfl
  refine F.ok scLeft (fun vs H Q E h => ?_) (fun cdv A outer s H vs Q E hr h => ?_)
  · obtain ⟨r, t, rows, m, rfl, _⟩ := h
    rfl
  · obtain ⟨r, t, rows, m, rfl, R, M, ne, lm, hm, hL, k⟩ := h
    refine ⟨_, PSs.nox (pss_cons (ps_set (i := 2) scLeft.nd rfl (.inl rfl) (pe_lst (pa_cons (pe_ix ix_tup (pv 0) pe_int (fun _ _ => rfl)) pa_nil)))
      (pss_cons (ps_for PassesOwn.never rfl (pi_tup (pe_slice sl_tup (pv 1) (po_some pe_int) po_none)) (pg_tup rfl (pgs_cons (pg_name (i := 3) scLeft.nd rfl (.inl rfl)) (pgs_cons (pg_name (i := 4) scLeft.nd rfl (.inr rfl)) pgs_nil)))
        (pss_one (ps_expr (pe_bm PySem.F.plainAttrs_list PySem.F.slot_list_append PySem.F.type_list_append mt_append (pv 2) (pa_cons (pe_callTy call_tuple_of rfl zt PyProof.Rows.boot_tuple
          (pa_cons (pe_lc (own := [("number", 5)]) (g := gName 5) (te := teLeft K) (by rfl) scLeft.nd (pi_tup (pe_ix ix_list (pv 2) (pv 3) (fun _ _ => rfl))) (blkOk_by (own := [("number", 5)]) (N := ["right", "made", "table", "before", "letter", "number"]) (sc := defScope s_left_table) (by decide +kernel)) (fun _ _ _ _ _ => pg_name (i := 5) scLeft.nd rfl (Or.inl rfl)) (fun _ _ _ _ _ => pts_nil)
            (fun _ _ _ _ _ => by exact pe_ix ix_tup (pe_ix ix_tup (pv 0) (pv 5) (fun _ _ => rfl)) (pv 4) (fun _ _ => rfl))) pa_nil)) pa_nil)))))
      (pss_one (ps_ret (pe_callTy call_tuple_of rfl zt PyProof.Rows.boot_tuple (pa_cons (pv 2) pa_nil)))))), ?_⟩
    obtain ⟨as, sr, la, srow⟩ := R.ex
    obtain ⟨ps, sm, lp, sp⟩ := M.ex
    have n0 : 0 < rows.length := List.length_pos_iff.mpr ne
    obtain ⟨a0, ha0⟩ := lt_get (show 0 < as.length by omega)
    obtain ⟨row0, hrow0⟩ := lt_get n0
    refine ⟨_, rfl, r, as.map V.ref, 0, .ref a0, rfl, rfl, sr, atI_nat (j := 0) (get_map ha0), (by show 1 ≤ sizeLine; decide), fun B nB => ?_⟩
    have s1 := same_upd (o := .lst [V.ref a0]) nB
    have hB1 : L2.upd H B (.lst [V.ref a0]) B = some (.lst ([a0].map V.ref)) := upd_same
    generalize L2.upd H B (.lst [V.ref a0]) = H1 at s1 hB1 ⊢
    refine ⟨_, rfl, 1, rfl, t, _, rfl, Lf.SqT.same s1 sm, ?_, fun S nS => ⟨S, rfl, ⟨_, SqT.of upd_same⟩, ?_⟩⟩
    · rw [List.length_cons, sIx1]
      rintro ⟨z, _⟩
      exact absurd z (by decide)
    rw [cut1]
    have u2 := same_upd (o := .tup (ps.map V.ref)) nS
    have hS : L2.upd H1 S (.tup (ps.map V.ref)) S = some (.tup (ps.map V.ref)) := upd_same
    have s2 := s1.trans u2
    have hB2 := u2 _ _ hB1
    have nSB : S ≠ B := fun z => by rw [z, hB1] at nS; cases nS
    generalize L2.upd H1 S (.tup (ps.map V.ref)) = H2 at s2 hS hB2 ⊢
    clear u2 s1 hB1 nS
    have lps : (ps.map V.ref).length = m.length := by rw [List.length_map, lp]
    refine for_tup (K := K) (a := S) (xs := ps.map V.ref) (fun i σ Hn => ∃ v3 v4 : Option V, σ = [some (.ref r), some (.ref t), some (.ref B), v3, v4, none] ∧ Same H Hn ∧ Hn S = some (.tup (ps.map V.ref)) ∧ ∃ bs : List Addr, Hn B = some (.lst (bs.map V.ref)) ∧ bs.length = (Mon.leftTab rows (m.take i)).length ∧
        ∀ (j : Nat) b l, bs[j]? = some b → (Mon.leftTab rows (m.take i))[j]? = some l → SqT K H b (l.map nv) ∨ Hn b = some (.tup (l.map nv)))
      ⟨none, none, rfl, s2, hS, [a0], hB2, rfl, fun j b l h1 h2 => ?_⟩ (fun i σ Hn _ ⟨_, _, _, _, h, _⟩ => SqT.of h) (fun i x σ Hn hx ⟨v3, v4, eσ, sn, hSn, bs, hBn, lb, pb⟩ => ?_) (fun σ Hn ⟨v3, v4, eσ, sn, hSn, bs, hBn, lb, pb⟩ => ?_)
    · cases j with
      | zero =>
        cases h1
        have e : row0 = l := by
          have : Mon.leftTab rows (m.take 0) = [rows.getD 0 []] := rfl
          rw [this, Mon.getD_of hrow0] at h2
          exact Option.some.inj h2
        rw [← e]
        exact .inl (srow 0 a0 row0 ha0 hrow0)
      | succ j => simp at h1
    · subst eσ
      obtain ⟨pa, hpa, rfl⟩ := map_get hx
      obtain ⟨p, hp⟩ := lt_get (show i < m.length by have := get_lt hpa; omega)
      obtain ⟨b1, c1⟩ := hm i p hp
      have eL : Mon.leftTab rows (m.take (i + 1)) = Mon.leftStep rows (Mon.leftTab rows (m.take i)) p := by rw [(Mon.take_cons hp).2.1, Mon.left_snoc]
      have lL : (Mon.leftTab rows (m.take i)).length = i + 1 := by rw [Mon.left_len, (Mon.take_cons hp).2.2]
      obtain ⟨b, hb⟩ := lt_get (show p.1 < bs.length by omega)
      obtain ⟨l, hl⟩ := lt_get (show p.1 < (Mon.leftTab rows (m.take i)).length by omega)
      obtain ⟨ll, lx⟩ := hL i p.1 l hl
      have sb : SqT K Hn b (l.map nv) := by
        rcases pb _ b l hb hl with z | z
        · exact Lf.SqT.same sn z
        · exact SqT.of z
      refine ⟨pa, _, rfl, Lf.SqT.same sn (sp i pa p hpa hp), rfl, _, _, rfl, _, _, rfl, rfl, ?_⟩
      refine ⟨_, rfl, .inl ⟨rfl, _, SqL.of hBn⟩, _, rfl, _, rfl, B, bs.map V.ref, _, .ref b, rfl, rfl, SqL.of hBn, atI_nat (get_map hb), b, rfl, ⟨_, sb⟩, fun D nD => ?_⟩
      refine lc_tup (K := K) (a := b) (xs := l.map nv) (fun j Hc => But D Hn Hc ∧ Hc D = some (.lst ((l.take j).map fun x => nv ((rows.getD x []).getD p.2 0)))) ⟨But.upd, upd_same⟩ (fun j Hc _ ⟨bc, _⟩ => Lf.SqT.same (Same.but (L2.Same.refl _) nD bc) sb) (fun j z Hc hz ⟨bc, hD⟩ => ?_) (fun Hc ⟨bc, hD⟩ => ?_)
      · obtain ⟨x, hxx, rfl⟩ := map_get hz
        refine ⟨rfl, yesT ?_⟩
        have sc := sn.trans (Same.but (L2.Same.refl _) nD bc)
        have xl := lx x (List.mem_of_getElem? hxx)
        obtain ⟨a, ha⟩ := lt_get (show x < as.length by omega)
        obtain ⟨row, hrow⟩ := lt_get xl
        obtain ⟨e, he⟩ := lt_get (c1 row (List.mem_of_getElem? hrow))
        refine ⟨_, rfl, _, rfl, r, as.map V.ref, _, .ref a, rfl, rfl, Lf.SqT.same sc sr, atI_nat (get_map ha), _, rfl, a, row.map nv, _, nv e, rfl, rfl, Lf.SqT.same sc (srow x a row ha hrow), atI_nat (get_map he), ?_⟩
        refine ⟨_, hD, ?_, But.trans bc But.upd, ?_⟩
        · rw [List.length_map, List.length_take]
          have := get_lt hxx
          show min j l.length < 16777216
          omega
        · rw [upd_same, take_snoc hxx, List.map_append, List.map_cons, List.map_nil, Mon.getD_of hrow, Mon.getD_of he]
      · rw [List.length_map, List.take_length] at hD
        have sc := Same.but (L2.Same.refl _) nD bc
        refine ⟨D, _, rfl, .inl ⟨SqL.of hD, fun N nN => ?_⟩⟩
        have u3 := sc.trans (same_upd (o := .tup (l.map fun x => nv ((rows.getD x []).getD p.2 0))) nN)
        have hN : L2.upd Hc N (.tup (l.map fun x => nv ((rows.getD x []).getD p.2 0))) N = some (.tup (l.map fun x => nv ((rows.getD x []).getD p.2 0))) := upd_same
        generalize L2.upd Hc N (.tup (l.map fun x => nv ((rows.getD x []).getD p.2 0))) = H3 at u3 hN ⊢
        have hB3 := u3 _ _ hBn
        have nNB : N ≠ B := fun z => by rw [z, hB3] at hN; cases hN
        refine ⟨B, _, _, rfl, rfl, hB3, by rw [List.length_map, lb, lL]; have := get_lt hp; show i + 1 < 16777216; omega, _, _, rfl, fun c o e => ?_, by rw [upd_ne nSB]; exact u3 _ _ hSn, bs ++ [N], by rw [upd_same]; simp, by rw [eL, Mon.leftStep, List.length_append, List.length_append, lb]; rfl, fun j c l2 h1 h2 => ?_⟩
        · rw [upd_ne (ne_of_none e nB)]
          exact (sn.trans u3) _ _ e
        · rw [eL, Mon.leftStep] at h2
          by_cases hj : j < bs.length
          · rw [List.getElem?_append_left hj] at h1
            rw [List.getElem?_append_left (by omega)] at h2
            rcases pb j c l2 h1 h2 with z | z
            · exact .inl z
            · have z3 := u3 _ _ z
              exact .inr (by rw [upd_ne (fun y => by rw [y, hB3] at z3; cases z3)]; exact z3)
          · have hj2 : j = bs.length := by
              have := get_lt h1
              rw [List.length_append, List.length_singleton] at this
              omega
            rw [hj2, List.getElem?_append_right (Nat.le_refl _), Nat.sub_self] at h1
            rw [hj2, lb, List.getElem?_append_right (Nat.le_refl _), Nat.sub_self] at h2
            cases h1
            cases h2
            refine .inr ?_
            rw [upd_ne nNB, hN, Mon.getD_of hl, List.map_map]
            rfl
    · subst eσ
      rw [lps, List.take_length] at lb pb
      refine ⟨_, rfl, B, _, rfl, .inl ⟨SqL.of hBn, fun N nN => ?_⟩⟩
      have u3 := same_upd (o := .tup (bs.map V.ref)) nN
      exact k N _ (sn.trans u3) ⟨bs, SqT.of upd_same, lb, fun j b l h1 h2 => (pb j b l h1 h2).elim (fun z => Lf.SqT.same (sn.trans u3) z) fun z => SqT.of (u3 _ _ z)⟩
end
end K16

set_option Elab.async false
set_option linter.all false
set_option maxRecDepth 100000
set_option maxHeartbeats 8000000
namespace K16
open PySem PySem.Spec PyProof.Rows L2 Lf
/-- a tuple of numbers as data -/
abbrev nd (l : List Nat) : PyData := .tuple (l.map fun i => .int (i : Nat))
theorem nd_all {K : PySem.W.Frag} {H : Hp} : ∀ {l : List Nat}, DpAll K H (l.map nv) (l.map fun i => PyData.int (i : Nat))
  | [] => .nil
  | i :: r => .cons (.int _) (nd_all (l := r))
theorem nd_shape (l : List Nat) : SeqAt.shaped (nd l) = true := by
  have all : ∀ l : List Nat, PyData.canLayAll0 (l.map fun i => PyData.int (i : Nat)) = true ∧ PyData.depthAll (l.map fun i => PyData.int (i : Nat)) = 0 := by
    intro l
    induction l with
    | nil => simp [PyData.canLayAll0, PyData.depthAll]
    | cons i r ih => simp [PyData.canLayAll0, PyData.depthAll, PyData.canLay0, PyData.depth, ih.1, ih.2]
  unfold SeqAt.shaped
  simp [PyData.canLay0, PyData.depth, (all l).1, (all l).2]
/-- tuples of the same numbers are not unlike -/
theorem nd_ne {K : PySem.W.Frag} {H : Hp} {a b : Addr} {l : List Nat} {Q : VK} (qa : SqT K H a (l.map nv)) (qb : SqT K H b (l.map nv)) (k : Q (.bl false) H) : rNeD K (.ref a) (.ref b) H Q := by
  refine ⟨_, _, .tup qa nd_all, .tup qb nd_all, nd_shape l, nd_shape l, ?_⟩
  rw [eqv_same (nd_shape l)]
  exact k
def spProds (K : PySem.W.Frag) : Sp := fun vs H Q _ => ∃ r q rows L, vs = [.ref r, .ref q] ∧ RowsT K H r rows ∧ RowsT K H q L ∧ L.length = rows.length ∧
  (∀ (i : Nat) row (c t : Nat) li, rows[i]? = some row → row[c]? = some t → L[i]? = some li → (∀ row' ∈ rows, c < row'.length) ∧ li.length ≤ 2000 ∧ (∀ x ∈ li, x < rows.length) ∧ t < rows.length ∧ L[t]? = some (li.map fun x => (rows.getD x []).getD c 0)) ∧ ∀ H', Same H H' → Q .non H'
abbrev teProd (K : PySem.W.Frag) : TE := tOp (rIxT K) (tOp (rIxT K) (tVar 0) (tVar 6)) (tVar 4)
section
variable {P : Program} {w : World} {K : PySem.W.Frag} {mg : Str → Option Value} {base : Heap}
theorem scProds : FnScope ["right", "left", "number", "row", "letter", "reached", "begun"] ["right", "left"] (defScope s_check_products) := ⟨rfl, rfl, rfl, by decide +kernel, rfl, by decide +kernel, by decide +kernel⟩
theorem ok_prods {f : Addr} {fd : FuncData} {q : Str} (F : FunD K "_check_products" q (defArgs s_check_products) (defBody s_check_products) (defScope s_check_products) [] [] f fd) (T : Txt P w K mg base) :
    FnOk P w K mg base CX0 1 f fd ["right", "left"] (spProds K) := by
  have zE : mg "enumerate" = none := T.fr 39 "enumerate" rfl
  have zt : mg "tuple" = none := T.fr 47 "tuple" rfl
  refine F.ok scProds (fun vs H Q E h => ?_) (fun cdv A outer s H vs Q E hr h => ?_)
  · obtain ⟨r, q, rows, L, rfl, _⟩ := h
    rfl
  · obtain ⟨r, q, rows, L, rfl, R, RL, eL, ok, k⟩ := h
    refine ⟨_, PSs.nox (pss_one (ps_for PassesOwn.never rfl (pi_enumA rfl zE (pv 0)) (pg_tup rfl (pgs_cons (pg_name (i := 2) scProds.nd rfl (.inl rfl)) (pgs_cons (pg_name (i := 3) scProds.nd rfl (.inl rfl)) pgs_nil)))
      (pss_one (ps_for PassesOwn.never rfl (pi_enumA rfl zE (pv 3)) (pg_tup rfl (pgs_cons (pg_name (i := 4) scProds.nd rfl (.inr rfl)) (pgs_cons (pg_name (i := 5) scProds.nd rfl (.inl rfl)) pgs_nil)))
        (pss_one (ps_if (pt_cmpR (op_neD hr.units) (pe_ix ix_tup (pv 1) (pv 5) (fun _ _ => rfl)) (pe_callTy call_tuple_of rfl zt PyProof.Rows.boot_tuple
          (pa_cons (pe_lc (own := [("begun", 6)]) (g := gName 6) (te := teProd K) (by rfl) scProds.nd (pi_tup (pe_ix ix_tup (pv 1) (pv 2) (fun _ _ => rfl))) (blkOk_by (own := [("begun", 6)]) (N := ["right", "left", "number", "row", "letter", "reached", "begun"]) (sc := defScope s_check_products) (by decide +kernel)) (fun _ _ _ _ _ => pg_name (i := 6) scProds.nd rfl (Or.inl rfl)) (fun _ _ _ _ _ => pts_nil)
            (fun _ _ _ _ _ => by exact pe_ix ix_tup (pe_ix ix_tup (pv 0) (pv 6) (fun _ _ => rfl)) (pv 4) (fun _ _ => rfl))) pa_nil)) (nomark _)) (pss_one ps_never) pss_nil)))))), ?_⟩
    obtain ⟨as, sr, la, srow⟩ := R.ex
    obtain ⟨bs, sq, lb, sl⟩ := RL.ex
    have ln : (as.map V.ref).length = rows.length := by rw [List.length_map, la]
    refine ⟨_, rfl, r, as.map V.ref, rfl, .inr ⟨sr, ?_⟩⟩
    have wk : Walk (Itet K r) (as.map V.ref).length (fun H2 => Same H H2) (fun i H v H' => ∃ T x, v = .ref T ∧ H T = none ∧ H' = L2.upd H T (.tup [.int (i : Nat), x]) ∧ (as.map V.ref)[i]? = some x) := (walk_enumT (xs := as.map V.ref)).mono (fun H s => Lf.SqT.same s sr) (fun i H x H' _ _ y => y)
    refine for_it wk (fun i σ H2 => ∃ v2 v3 v4 v5 : Option V, σ = [some (.ref r), some (.ref q), v2, v3, v4, v5, none] ∧ Same H H2) ⟨none, none, none, none, rfl, L2.Same.refl _⟩ (fun i σ H2 _ ⟨_, _, _, _, _, s⟩ => s) ?_ ?_
    · rintro i x σ H2 H3 hi ⟨v2, v3, v4, v5, rfl, s2⟩ ⟨T', y, rfl, nT, rfl, hy⟩
      obtain ⟨a, ha, rfl⟩ := map_get hy
      have hi2 : i < rows.length := by rw [← ln]; exact hi
      obtain ⟨row, hrow⟩ := lt_get hi2
      have sa := srow i a row ha hrow
      refine ⟨T', _, rfl, SqT.of upd_same, rfl, _, _, rfl, _, _, rfl, rfl, ?_⟩
      have s3 := s2.trans (same_upd (o := .tup [.int (i : Nat), .ref a]) nT)
      generalize L2.upd H2 T' (.tup [.int (i : Nat), .ref a]) = H3 at s3 ⊢
      refine ⟨_, rfl, a, row.map nv, rfl, .inr ⟨Lf.SqT.same s3 sa, ?_⟩⟩
      have wk2 : Walk (Itet K a) (row.map nv).length (fun H2 => Same H H2) (fun i H v H' => ∃ T x, v = .ref T ∧ H T = none ∧ H' = L2.upd H T (.tup [.int (i : Nat), x]) ∧ (row.map nv)[i]? = some x) := (walk_enumT (xs := row.map nv)).mono (fun H s => Lf.SqT.same s sa) (fun i H x H' _ _ y => y)
      refine for_it wk2 (fun j σ H4 => ∃ v4 v5 : Option V, σ = [some (.ref r), some (.ref q), some (nv i), some (.ref a), v4, v5, none] ∧ Same H H4) ⟨_, _, rfl, s3⟩ (fun j σ H4 _ ⟨_, _, _, s⟩ => s) ?_ ?_
      · rintro c x σ H4 H5 hj ⟨v4, v5, rfl, s4⟩ ⟨T2, y, rfl, nT2, rfl, hy2⟩
        obtain ⟨t, ht, rfl⟩ := map_get hy2
        obtain ⟨li, hli⟩ := lt_get (show i < L.length by omega)
        obtain ⟨cw, l2, lx, tl, hlt⟩ := ok i row c t li hrow ht hli
        obtain ⟨bt, hbt⟩ := lt_get (show t < bs.length by omega)
        obtain ⟨bi, hbi⟩ := lt_get (show i < bs.length by omega)
        refine ⟨T2, _, rfl, SqT.of upd_same, rfl, _, _, rfl, _, _, rfl, rfl, ?_⟩
        have s5 := s4.trans (same_upd (o := .tup [.int (c : Nat), nv t]) nT2)
        generalize L2.upd H4 T2 (.tup [.int (c : Nat), nv t]) = H5 at s5 ⊢
        have sb := Lf.SqT.same s5 (sl i bi li hbi hli)
        refine ⟨_, rfl, _, rfl, q, bs.map V.ref, _, .ref bt, rfl, rfl, Lf.SqT.same s5 sq, atI_nat (get_map hbt), ?_⟩
        refine ⟨_, rfl, _, rfl, q, bs.map V.ref, _, .ref bi, rfl, rfl, Lf.SqT.same s5 sq, atI_nat (get_map hbi), bi, rfl, ⟨_, sb⟩, fun D nD => ?_⟩
        refine lc_tup (K := K) (a := bi) (xs := li.map nv) (fun j Hc => But D H5 Hc ∧ Hc D = some (.lst ((li.take j).map fun x => nv ((rows.getD x []).getD c 0)))) ⟨But.upd, upd_same⟩ (fun j Hc _ ⟨bc, _⟩ => Lf.SqT.same (Same.but (L2.Same.refl _) nD bc) sb) (fun j z Hc hz ⟨bc, hD⟩ => ?_) (fun Hc ⟨bc, hD⟩ => ?_)
        · obtain ⟨x, hxx, rfl⟩ := map_get hz
          refine ⟨rfl, yesT ?_⟩
          have sc := s5.trans (Same.but (L2.Same.refl _) nD bc)
          have xl := lx x (List.mem_of_getElem? hxx)
          obtain ⟨a', ha'⟩ := lt_get (show x < as.length by omega)
          obtain ⟨row', hrow'⟩ := lt_get xl
          obtain ⟨e, he⟩ := lt_get (cw row' (List.mem_of_getElem? hrow'))
          refine ⟨_, rfl, _, rfl, r, as.map V.ref, _, .ref a', rfl, rfl, Lf.SqT.same sc sr, atI_nat (get_map ha'), _, rfl, a', row'.map nv, _, nv e, rfl, rfl, Lf.SqT.same sc (srow x a' row' ha' hrow'), atI_nat (get_map he), ?_⟩
          refine ⟨_, hD, ?_, But.trans bc But.upd, ?_⟩
          · rw [List.length_map, List.length_take]
            have := get_lt hxx
            show min j li.length < 16777216
            omega
          · rw [upd_same, take_snoc hxx, List.map_append, List.map_cons, List.map_nil, Mon.getD_of hrow', Mon.getD_of he]
        · rw [List.length_map, List.take_length] at hD
          have sc := Same.but (L2.Same.refl _) nD bc
          refine ⟨D, _, rfl, .inl ⟨SqL.of hD, fun N nN => ?_⟩⟩
          have u6 := sc.trans (same_upd (o := .tup (li.map fun x => nv ((rows.getD x []).getD c 0))) nN)
          have s6 := s5.trans u6
          have e6 : (li.map fun x => nv ((rows.getD x []).getD c 0)) = (li.map fun x => (rows.getD x []).getD c 0).map nv := by rw [List.map_map]; rfl
          refine nd_ne (l := li.map fun x => (rows.getD x []).getD c 0) (Lf.SqT.same s6 (sl t bt _ hbt hlt)) (SqT.of (by rw [upd_same, e6])) ⟨_, rfl, ?_⟩
          exact ifF rfl ⟨_, _, rfl, s6⟩
      · rintro σ H4 ⟨v4, v5, rfl, s4⟩
        exact ⟨_, _, _, _, rfl, s4⟩
    · rintro σ H2 ⟨v2, v3, v4, v5, rfl, s2⟩
      exact k _ s2
end
end K16

set_option Elab.async false
set_option linter.all false
set_option maxRecDepth 100000
set_option maxHeartbeats 8000000
namespace K16
open PySem PySem.Spec PyProof.Rows L2 Lf
theorem SqT.but {K : PySem.W.Frag} {H H' : Hp} {p a C dx : Addr} {fs : List (Str × V)} {xs : List V} (hp : H p = some (.ins C dx fs)) (b : But p H H') (h : SqT K H a xs) : SqT K H' a xs := by
  rcases h with (h | ⟨o, h⟩) | h
  · exact .inl (.inl (b _ _ (fun z => by rw [z, hp] at h; cases h) h))
  · exact .inl (.inr ⟨o, b _ _ (fun z => by rw [z, hp] at h; cases h) h⟩)
  · exact .inr h
theorem RowsT.but {K : PySem.W.Frag} {H H' : Hp} {p r C dx : Addr} {fs : List (Str × V)} {rows : List (List Nat)} (hp : H p = some (.ins C dx fs)) (b : But p H H') (h : RowsT K H r rows) : RowsT K H' r rows := by
  obtain ⟨as, h1, h2, h3⟩ := h.ex
  exact ⟨as, SqT.but hp b h1, h2, fun i x row g1 g2 => SqT.but hp b (h3 i x row g1 g2)⟩
theorem MadeT.but {K : PySem.W.Frag} {H H' : Hp} {p r C dx : Addr} {fs : List (Str × V)} {m : List (Nat × Nat)} (hp : H p = some (.ins C dx fs)) (b : But p H H') (h : MadeT K H r m) : MadeT K H' r m := by
  obtain ⟨as, h1, h2, h3⟩ := h.ex
  exact ⟨as, SqT.but hp b h1, h2, fun i x row g1 g2 => SqT.but hp b (h3 i x row g1 g2)⟩
/-- a table that the constructor takes -/
structure Accept (rows : List (List Nat)) (wd : Nat) (m : List (Nat × Nat)) : Prop where
  form : Form rows wd
  made : Mon.madeTab 0 rows [] = some m
  len : m.length + 1 = rows.length
  left : ∀ (i k : Nat) l, (Mon.leftTab rows (m.take i))[k]? = some l → l.length = wd ∧ ∀ x ∈ l, x < rows.length
  prod : ∀ (i : Nat) row (c t : Nat) li lt, rows[i]? = some row → row[c]? = some t → (Mon.leftTab rows m)[i]? = some li → (Mon.leftTab rows m)[t]? = some lt → lt = li.map fun x => (rows.getD x []).getD c 0
theorem accept_of {n : Nat} {gens found rows : List (List Nat)} {m : List (Nat × Nat)} (T : Mon.Tab n gens found rows) (g1 : gens ≠ []) (g6 : gens.length ≤ 6) (f2 : found.length ≤ 2000) (hm : Mon.madeTab 0 rows [] = some m) (lm : m.length + 1 = rows.length) : Accept rows gens.length m := by
  have mk : ∀ (i k : Nat) p, (m.take i)[k]? = some p → p.1 < k + 1 ∧ ∃ row, rows[p.1]? = some row ∧ row[p.2]? = some (k + 1) := fun i k p h => by
    rw [List.getElem?_take] at h
    split at h
    · exact Mon.madeTab_lt hm h
    · cases h
  have lo : ∀ (i k : Nat) l, (Mon.leftTab rows (m.take i))[k]? = some l → Mon.LeftOk gens found k l := fun i => Mon.left_ok T g1 (m.take i) (mk i)
  have lm' : ∀ (k : Nat) l, (Mon.leftTab rows m)[k]? = some l → Mon.LeftOk gens found k l := fun k l h => lo m.length k l (by rw [List.take_length]; exact h)
  refine ⟨⟨?_, ?_, List.length_pos_iff.mpr g1, g6, fun row hr => ?_⟩, hm, lm, fun i k l h => ?_, fun i row c t li lt h1 h2 h3 h4 => Mon.prod_ok T g1 lm' h1 h2 h3 h4⟩
  · omega
  · rw [T.len]; exact f2
  · obtain ⟨i, hi⟩ := List.getElem?_of_mem hr
    refine ⟨T.wid i row hi, fun t ht => ?_⟩
    obtain ⟨c, hc⟩ := List.getElem?_of_mem ht
    obtain ⟨x, g, _, _, h3⟩ := T.ent i row hi c t hc
    rw [T.len]
    exact (List.getElem?_eq_some_iff.mp h3).1
  · obtain ⟨a, b⟩ := lo i k l h
    refine ⟨a, fun x hx => ?_⟩
    obtain ⟨c, hc⟩ := List.getElem?_of_mem hx
    obtain ⟨_, _, _, _, h3⟩ := b c x hc
    rw [T.len]
    exact (List.getElem?_eq_some_iff.mp h3).1
/-- a Monoid -/
structure Mo (K : PySem.W.Frag) (H : Hp) (x : Addr) (rows : List (List Nat)) (m : List (Nat × Nat)) : Prop where
  ex : ∃ dx t u v, H x = some (.ins (He.ga K "Monoid") dx [("right", .ref t), ("_made", .ref u), ("_left", .ref v)]) ∧ RowsT K H t rows ∧ MadeT K H u m ∧ RowsT K H v (Mon.leftTab rows m)
theorem Mo.same {K : PySem.W.Frag} {H H' : Hp} {x : Addr} {rows : List (List Nat)} {m : List (Nat × Nat)} (h : Mo K H x rows m) (e : Same H H') : Mo K H' x rows m := by
  obtain ⟨dx, t, u, v, a, b, c, d⟩ := h.ex
  exact ⟨dx, t, u, v, e _ _ a, b.same e, c.same e, d.same e⟩
def spMon (K : PySem.W.Frag) : Sp := fun vs H Q _ => ∃ p r dx rows wd m, vs = [.ref p, .ref r] ∧ H p = some (.ins (He.ga K "Monoid") dx []) ∧ RowsL K H r rows ∧ Accept rows wd m ∧ ∀ H', But p H H' → Mo K H' p rows m → Q .non H'
abbrev rTup (K : PySem.W.Frag) : List V → Hp → VK → Prop := fun xs H Q => ∃ p ys, xs = [V.ref p] ∧ ((SqL K H p ys ∧ ∀ (l : Addr), H l = none → Q (V.ref l) (L2.upd H l (HO.tup ys))) ∨ SqT K H p ys ∧ Q (V.ref p) H)
section
variable {P : Program} {w : World} {K : PySem.W.Frag} {mg : Str → Option Value} {base : Heap}
theorem scMon : FnScope ["self", "right", "row"] ["self", "right"] (defScope s_Monoid_init) := ⟨rfl, rfl, rfl, by decide +kernel, rfl, by decide +kernel, by decide +kernel⟩
theorem ok_mon {f : Addr} {fd : FuncData} {q : Str} (F : FunD K "__init__" q (defArgs s_Monoid_init) (defBody s_Monoid_init) (defScope s_Monoid_init) [] [] f fd) (T : Txt P w K mg base)
    (DF : Def P w K mg base CX0 3 "_check_form" ["right"] (spForm K)) (DM : Def P w K mg base CX0 1 "_made_by" ["right"] (spMade K)) (DL : Def P w K mg base CX0 1 "_left_table" ["right", "made"] (spLeft K)) (DP : Def P w K mg base CX0 1 "_check_products" ["right", "left"] (spProds K)) :
    FnOk P w K mg base CX0 4 f fd ["self", "right"] (spMon K) := by
  have zt : mg "tuple" = none := T.fr 47 "tuple" rfl
  have cl : L2.Cls K (He.ga K "Monoid") := He.cls_ok (T.d.fact 49 (f := .cls "Monoid") rfl)
  have n1 : NoAttr K (He.ga K "Monoid") "right" := He.noat_ok (T.d.fact 65 (f := .noat "Monoid" "right") rfl)
  have n2 : NoAttr K (He.ga K "Monoid") "_made" := He.noat_ok (T.d.fact 66 (f := .noat "Monoid" "_made") rfl)
  have n3 : NoAttr K (He.ga K "Monoid") "_left" := He.noat_ok (T.d.fact 67 (f := .noat "Monoid" "_left") rfl)
  refine F.ok scMon (fun vs H Q E h => ?_) (fun cdv A outer s H vs Q E hr h => ?_)
  · obtain ⟨p, r, dx, rows, wd, m, rfl, _⟩ := h
    rfl
  · obtain ⟨p, r, dx, rows, wd, m, rfl, hp, R, AC, k⟩ := h
    have r1 : Room 1 _ := hr.mono (by decide)
    refine ⟨_, PSs.nox (pss_cons (ps_expr (pe_def DF hr pass0 rfl (pa_cons (pv 1) pa_nil)))
      (pss_cons (ps_fld (pv 0) (pe_callTy call_tuple_of rfl zt PyProof.Rows.boot_tuple (pa_cons (pe_lc (own := [("row", 2)]) (g := gName 2) (te := tCB (rTup K) (tCons (tVar 2) tNil)) (by rfl) scMon.nd (pi_list (pv 1)) (blkOk_by (own := [("row", 2)]) (N := ["self", "right", "row"]) (sc := defScope s_Monoid_init) (by decide +kernel)) (fun _ _ _ _ _ => pg_name (i := 2) scMon.nd rfl (Or.inl rfl)) (fun _ _ _ _ _ => pts_nil)
        (fun _ _ _ _ _ => by exact pe_callTy call_tuple_of rfl zt PyProof.Rows.boot_tuple (pa_cons (pv 2) pa_nil))) pa_nil)) rfl)
      (pss_cons (ps_fld (pv 0) (pe_def DM r1 pass0 rfl (pa_cons (pe_fld (pv 0) rfl) pa_nil)) rfl)
      (pss_cons (ps_fld (pv 0) (pe_def DL r1 pass0 rfl (pa_cons (pe_fld (pv 0) rfl) (pa_cons (pe_fld (pv 0) rfl) pa_nil))) rfl)
      (pss_one (ps_expr (pe_def DP r1 pass0 rfl (pa_cons (pe_fld (pv 0) rfl) (pa_cons (pe_fld (pv 0) rfl) pa_nil))))))))), ?_⟩
    obtain ⟨f1, f2, w1, w6, frow⟩ := AC.form
    refine ⟨_, rfl, r, rows, wd, rfl, R, AC.form, fun H1 s1 => ?_⟩
    obtain ⟨as, sr, la, srow⟩ := (R.same s1).ex
    have hp1 := s1 _ _ hp
    have ln : (as.map V.ref).length = rows.length := by rw [List.length_map, la]
    refine ⟨_, rfl, r, rfl, ⟨_, sr⟩, fun D nD => ?_⟩
    refine lc_list (K := K) (a := r) (xs := as.map V.ref) (fun i Hc => But D H1 Hc ∧ ∃ us : List Addr, us.length = i ∧ Hc D = some (.lst (us.map V.ref)) ∧ ∀ (j : Nat) u row, us[j]? = some u → rows[j]? = some row → Hc u = some (.tup (row.map nv))) ⟨But.upd, [], rfl, upd_same, fun j u row h => by simp at h⟩ (fun i Hc _ ⟨bc, _⟩ => L2.Same.seq (Same.but (L2.Same.refl _) nD bc) sr) (fun i z Hc hz ⟨bc, us, lu, hD, pu⟩ => ?_) (fun Hc ⟨bc, us, lu, hD, pu⟩ => ?_)
    · obtain ⟨a, ha, rfl⟩ := map_get hz
      obtain ⟨row, hrow⟩ := lt_get (show i < rows.length by have := get_lt ha; omega)
      have sc := Same.but (L2.Same.refl _) nD bc
      refine ⟨rfl, yesT ?_⟩
      refine ⟨_, rfl, a, row.map nv, rfl, .inl ⟨L2.Same.seq sc (srow i a row ha hrow), fun u nu => ?_⟩⟩
      have u2 := same_upd (o := .tup (row.map nv)) nu
      have hu : L2.upd Hc u (.tup (row.map nv)) u = some (.tup (row.map nv)) := upd_same
      generalize L2.upd Hc u (.tup (row.map nv)) = H2 at u2 hu ⊢
      have hD2 := u2 _ _ hD
      have nuD : u ≠ D := fun z => by rw [z, hD2] at hu; cases hu
      refine ⟨_, hD2, by rw [List.length_map, lu]; have := get_lt hrow; show i < 16777216; omega, But.trans (bc.trans (But.of u2)) But.upd, us ++ [u], by simp [lu], by rw [upd_same]; simp, fun j v rw' h1 h2 => ?_⟩
      by_cases hj : j < us.length
      · rw [List.getElem?_append_left hj] at h1
        have z := u2 _ _ (pu j v rw' h1 h2)
        rw [upd_ne (fun y => by rw [y, hD2] at z; cases z)]
        exact z
      · have hj2 : j = us.length := by
          have := get_lt h1
          rw [List.length_append, List.length_singleton] at this
          omega
        rw [hj2, List.getElem?_append_right (Nat.le_refl _), Nat.sub_self] at h1
        cases h1
        rw [hj2, lu, hrow] at h2
        cases h2
        rw [upd_ne nuD]
        exact hu
    · have sc := Same.but (L2.Same.refl _) nD bc
      refine ⟨D, _, rfl, .inl ⟨SqL.of hD, fun t nt => ?_⟩⟩
      have u2 := same_upd (o := .tup (us.map V.ref)) nt
      have s2 := sc.trans u2
      have Rt : RowsT K (L2.upd Hc t (.tup (us.map V.ref))) t rows := ⟨us, SqT.of upd_same, by rw [lu, ln], fun j u row h1 h2 => SqT.of (u2 _ _ (pu j u row h1 h2))⟩
      generalize L2.upd Hc t (.tup (us.map V.ref)) = H2 at s2 Rt ⊢
      have hp2 := s2 _ _ hp1
      have b0 : But p H H2 := But.of (s1.trans s2)
      clear u2 pu hD bc sc
      refine ⟨_, rfl, p, _, dx, [], rfl, hp2, cl, n1, (by show 0 < 1000; decide), ?_⟩
      have Rt3 : RowsT K (L2.upd H2 p (.ins (He.ga K "Monoid") dx [("right", V.ref t)])) t rows := RowsT.but hp2 But.upd Rt
      have b3 : But p H (L2.upd H2 p (.ins (He.ga K "Monoid") dx [("right", V.ref t)])) := b0.trans But.upd
      have hp3 : L2.upd H2 p (.ins (He.ga K "Monoid") dx [("right", V.ref t)]) p = some (.ins (He.ga K "Monoid") dx [("right", V.ref t)]) := upd_same
      show tSeq _ _ _ _ (L2.upd H2 p (.ins (He.ga K "Monoid") dx [("right", V.ref t)]))
      generalize L2.upd H2 p (.ins (He.ga K "Monoid") dx [("right", V.ref t)]) = H3 at Rt3 b3 hp3 ⊢
      clear Rt b0 hp2 s2 nt hp1 sr srow s1 R
      refine ⟨_, rfl, p, _, dx, _, _, rfl, hp3, cl, n1, rfl, t, rows, m, rfl, Rt3, AC.made, by have := AC.len; omega, fun u H4 s4 Mu => ?_⟩
      have hp4 := s4 _ _ hp3
      refine ⟨_, rfl, p, _, dx, _, rfl, hp4, cl, n2, (by show 1 < 1000; decide), ?_⟩
      have b4 : But p H (L2.upd H4 p (.ins (He.ga K "Monoid") dx [("right", V.ref t), ("_made", V.ref u)])) := (b3.trans (But.of s4)).trans But.upd
      have Rt5 : RowsT K (L2.upd H4 p (.ins (He.ga K "Monoid") dx [("right", V.ref t), ("_made", V.ref u)])) t rows := RowsT.but hp4 But.upd (Rt3.same s4)
      have Mu5 : MadeT K (L2.upd H4 p (.ins (He.ga K "Monoid") dx [("right", V.ref t), ("_made", V.ref u)])) u m := MadeT.but hp4 But.upd Mu
      have hp5 : L2.upd H4 p (.ins (He.ga K "Monoid") dx [("right", V.ref t), ("_made", V.ref u)]) p = some (.ins (He.ga K "Monoid") dx [("right", V.ref t), ("_made", V.ref u)]) := upd_same
      show tSeq _ _ _ _ (L2.upd H4 p (.ins (He.ga K "Monoid") dx [("right", V.ref t), ("_made", V.ref u)]))
      generalize L2.upd H4 p (.ins (He.ga K "Monoid") dx [("right", V.ref t), ("_made", V.ref u)]) = H5 at Rt5 Mu5 b4 hp5 ⊢
      clear Rt3 Mu s4 hp4 b3 hp3
      refine ⟨_, rfl, p, _, dx, _, _, rfl, hp5, cl, n1, rfl, _, rfl, p, _, dx, _, _, rfl, hp5, cl, n2, rfl, t, u, rows, m, rfl, Rt5, Mu5, List.ne_nil_of_length_pos (by omega), by have := AC.len; omega, fun k p hp => ?_, fun i k l h => ?_, fun v H6 s6 Lv => ?_⟩
      · obtain ⟨a, row, b, c⟩ := Mon.madeTab_lt AC.made hp
        refine ⟨a, fun row' h => ?_⟩
        have := get_lt c
        rw [(frow row (List.mem_of_getElem? b)).1] at this
        rw [(frow row' h).1]
        exact this
      · obtain ⟨a, b⟩ := AC.left i k l h
        exact ⟨by omega, b⟩
      have hp6 := s6 _ _ hp5
      refine ⟨_, rfl, p, _, dx, _, rfl, hp6, cl, n3, (by show 2 < 1000; decide), ?_⟩
      have b6 : But p H (L2.upd H6 p (.ins (He.ga K "Monoid") dx [("right", V.ref t), ("_made", V.ref u), ("_left", V.ref v)])) := (b4.trans (But.of s6)).trans But.upd
      have Rt7 : RowsT K (L2.upd H6 p (.ins (He.ga K "Monoid") dx [("right", V.ref t), ("_made", V.ref u), ("_left", V.ref v)])) t rows := RowsT.but hp6 But.upd (Rt5.same s6)
      have Mu7 : MadeT K (L2.upd H6 p (.ins (He.ga K "Monoid") dx [("right", V.ref t), ("_made", V.ref u), ("_left", V.ref v)])) u m := MadeT.but hp6 But.upd (Mu5.same s6)
      have Lv7 : RowsT K (L2.upd H6 p (.ins (He.ga K "Monoid") dx [("right", V.ref t), ("_made", V.ref u), ("_left", V.ref v)])) v (Mon.leftTab rows m) := RowsT.but hp6 But.upd Lv
      have hp7 : L2.upd H6 p (.ins (He.ga K "Monoid") dx [("right", V.ref t), ("_made", V.ref u), ("_left", V.ref v)]) p = some (.ins (He.ga K "Monoid") dx [("right", V.ref t), ("_made", V.ref u), ("_left", V.ref v)]) := upd_same
      show Ends.nx _ _ (L2.upd H6 p (.ins (He.ga K "Monoid") dx [("right", V.ref t), ("_made", V.ref u), ("_left", V.ref v)]))
      generalize L2.upd H6 p (.ins (He.ga K "Monoid") dx [("right", V.ref t), ("_made", V.ref u), ("_left", V.ref v)]) = H7 at Rt7 Mu7 Lv7 b6 hp7 ⊢
      have lL : (Mon.leftTab rows m).length = rows.length := by rw [Mon.left_len, AC.len]
      have left' : ∀ (k : Nat) l, (Mon.leftTab rows m)[k]? = some l → l.length = wd ∧ ∀ x ∈ l, x < rows.length := fun k l h => AC.left m.length k l (by rw [List.take_length]; exact h)
      refine ⟨_, rfl, p, _, dx, _, _, rfl, hp7, cl, n1, rfl, _, rfl, p, _, dx, _, _, rfl, hp7, cl, n3, rfl, t, v, rows, Mon.leftTab rows m, rfl, Rt7, Lv7, lL, fun i row c x li h1 h2 h3 => ?_, fun H8 s8 => ?_⟩
      · obtain ⟨fr, fx⟩ := frow row (List.mem_of_getElem? h1)
        obtain ⟨la', lb'⟩ := left' i li h3
        have hx := fx x (List.mem_of_getElem? h2)
        obtain ⟨lt, hlt⟩ := lt_get (show x < (Mon.leftTab rows m).length by omega)
        refine ⟨fun row' h => ?_, by omega, lb', hx, ?_⟩
        · have := get_lt h2
          rw [(frow row' h).1]
          omega
        · rw [hlt, AC.prod i row c x li lt h1 h2 h3 hlt]
      · exact k H8 (b6.trans (But.of s8)) ⟨dx, t, u, v, s8 _ _ hp7, Rt7.same s8, Mu7.same s8, Lv7.same s8⟩
end
end K16

set_option Elab.async false
set_option linter.all false
set_option maxRecDepth 100000
set_option maxHeartbeats 8000000
namespace K16
open PySem PySem.Spec PyProof.Rows L2 Lf
/-- a dict of what is known -/
def trT (l : List Nat) : List (Key × V) := l.map fun x => (ik x, V.bl true)
theorem tr_none : ∀ {l : List Nat} {x : Nat}, x ∉ l → valV (trT l) (ik x) = none
  | [], _, _ => rfl
  | y :: r, x, h => by
    have hy : ¬ ik y = ik x := fun z => h (by rw [ik_inj z]; exact List.mem_cons_self)
    rw [trT, List.map_cons, valV_neg (p := (ik y, V.bl true)) hy]
    exact tr_none fun z => h (List.mem_cons_of_mem _ z)
theorem tr_some : ∀ {l : List Nat} {x : Nat}, x ∈ l → valV (trT l) (ik x) = some (.bl true)
  | y :: r, x, h => by
    by_cases hy : y = x
    · rw [trT, List.map_cons, hy, valV_pos (p := (ik x, V.bl true)) rfl]
    · have hy' : ¬ ik y = ik x := fun z => hy (ik_inj z)
      rw [trT, List.map_cons, valV_neg (p := (ik y, V.bl true)) hy']
      exact tr_some ((List.mem_cons.mp h).resolve_left fun z => hy z.symm)
theorem tr_put {l : List Nat} {x : Nat} (h : x ∉ l) : putK (trT l) (ik x) (.bl true) = trT (l ++ [x]) := by
  rw [putK_new _ (tr_none h), trT, trT, List.map_append]
  rfl
def spReach (K : PySem.W.Frag) : Sp := fun vs H Q _ => ∃ r f rows, vs = [.ref r, .int (f : Nat)] ∧ RowsT K H r rows ∧ Reach.Rf rows f ∧ rows.length ≤ 2000 ∧ ∀ p H', H p = none → Same H H' → H' p = some (.lst ((Reach.ord rows f).map nv)) → Q (.ref p) H'
section
variable {P : Program} {w : World} {K : PySem.W.Frag} {mg : Str → Option Value} {base : Heap}
theorem scReach : FnScope ["rows", "first", "order", "known", "place", "end"] ["rows", "first"] (defScope s_reached_from) := ⟨rfl, rfl, rfl, by decide +kernel, rfl, by decide +kernel, by decide +kernel⟩
theorem ok_reach {f : Addr} {fd : FuncData} {q : Str} (F : FunD K "reached_from" q (defArgs s_reached_from) (defBody s_reached_from) (defScope s_reached_from) [] [] f fd) (T : Txt P w K mg base) :
    FnOk P w K mg base CX0 2 f fd ["rows", "first"] (spReach K) := by
  have zn : mg "len" = none := T.fr 42 "len" rfl
  refine F.ok scReach (fun vs H Q E h => ?_) (fun cdv A outer s H vs Q E hr h => ?_)
  · obtain ⟨r, f, rows, rfl, _⟩ := h
    rfl
  · obtain ⟨r, f0, rows, rfl, R, RF, n2, k⟩ := h
    have hu : (A.deeper (envOfC q (defScope s_reached_from) s.heap.objs.size f cdv)).units + 1 < cLine := by have := hr.units; omega
    refine ⟨_, PSs.nox (pss_cons (ps_set (i := 2) scReach.nd rfl (.inl rfl) (pe_lst (pa_cons (pv 1) pa_nil)))
      (pss_cons (ps_set (i := 3) scReach.nd rfl (.inl rfl) (pe_disp (pps_cons (pv 1) pe_bl pps_nil) (by rfl) (by rfl) (fun z => by cases z) (by decide)))
      (pss_cons (ps_set (i := 4) scReach.nd rfl (.inl rfl) pe_int)
      (pss_cons (ps_while PassesOwn.never (pt_cmpR op_lt (pv 4) (pe_callB call_len_seq rfl zn boot_len (pa_cons (pv 2) pa_nil)) (nomark _))
        (pss_cons (ps_for PassesOwn.never rfl (pi_tup (pe_ix ix_tup (pv 0) (pe_ix ix_list (pv 2) (pv 4) (fun _ _ => rfl)) (fun _ _ => rfl))) (pg_name (i := 5) scReach.nd rfl (.inl rfl))
          (pss_one (ps_if (pt_cmp (pc_dnotin hu (pv 5) (pv 3)) (by rfl))
            (pss_cons (ps_dput hu (pv 3) (pv 5) pe_bl rfl)
            (pss_one (ps_expr (pe_bm PySem.F.plainAttrs_list PySem.F.slot_list_append PySem.F.type_list_append mt_append (pv 2) (pa_cons (pv 5) pa_nil))))) pss_nil)))
        (pss_one (ps_aug (i := 4) scReach.nd rfl (.inl rfl) pe_int ip_add))))
      (pss_one (ps_ret (pv 2))))))), ?_⟩
    obtain ⟨as, sr, la, srow⟩ := R.ex
    refine ⟨_, rfl, (by show 1 ≤ sizeLine; decide), fun B nB => ?_⟩
    have s1 := same_upd (o := .lst [V.int (f0 : Nat)]) nB
    have hB1 : L2.upd H B (.lst [V.int (f0 : Nat)]) B = some (.lst (([f0] : List Nat).map nv)) := upd_same
    generalize L2.upd H B (.lst [V.int (f0 : Nat)]) = H1 at s1 hB1 ⊢
    intro D nD
    have nD0 : H D = none := nil_of s1 nD
    have nDB : D ≠ B := fun z => by rw [z, hB1] at nD; cases nD
    refine ⟨_, rfl, upd_same, [(ik f0, V.bl true)], rfl, (by show 1 ≤ 15; decide), ?_⟩
    rw [L2.upd_upd]
    have s2 := s1.trans (same_upd (o := .dK (mergeK [] [(ik f0, V.bl true)])) nD)
    have hB2 := same_upd (o := .dK (mergeK [] [(ik f0, V.bl true)])) nD _ _ hB1
    have hD2 : L2.upd H1 D (.dK (mergeK [] [(ik f0, V.bl true)])) D = some (.dK (trT [f0])) := upd_same
    generalize L2.upd H1 D (.dK (mergeK [] [(ik f0, V.bl true)])) = H2 at s2 hB2 hD2 ⊢
    clear s1 hB1 nD
    refine ⟨fun i σ Hn => ∃ (v5 : Option V) (p : Nat), σ = [some (.ref r), some (.int (f0 : Nat)), some (.ref B), some (.ref D), some (.int (p : Nat)), v5] ∧ Same H Hn ∧ Hn B = some (.lst ((Reach.known rows f0 p).map nv)) ∧ Hn D = some (.dK (trT (Reach.known rows f0 p))) ∧ p ≤ (Reach.ord rows f0).length ∧ i + p = (Reach.ord rows f0).length,
      ⟨(Reach.ord rows f0).length, none, 0, rfl, s2, hB2, hD2, Nat.zero_le _, rfl⟩, ?_⟩
    rintro i σ Hn ⟨v5, p, rfl, sn, hBn, hDn, pl, im⟩
    have ol := Reach.ord_len RF
    refine ⟨_, rfl, _, rfl, B, _, rfl, .inl (SqL.of hBn), _, _, rfl, rfl, _, rfl, ?_⟩
    rw [List.length_map]
    by_cases hp : p < (Reach.known rows f0 p).length
    case neg =>
      refine ifF (decide_eq_false (by omega)) ⟨_, rfl, k B Hn nB sn ?_⟩
      rw [Reach.ord_eq (k := p) (by omega) (by omega)]
      exact hBn
    refine ifT (decide_eq_true (by omega)) ?_
    obtain ⟨a, ha⟩ := lt_get hp
    have hpo : p < (Reach.ord rows f0).length := by
      have := get_lt (Reach.pre_get (Reach.known_ord RF pl) ha)
      exact this
    have al : a < rows.length := Reach.known_lt RF (List.mem_of_getElem? ha)
    obtain ⟨row, hrow⟩ := lt_get al
    obtain ⟨b, hb⟩ := lt_get (show a < as.length by omega)
    have sb := srow a b row hb hrow
    have ek := Reach.known_at ha
    rw [Mon.getD_of hrow] at ek
    refine ⟨fun σ' H' => ∃ i', i' < i ∧ ∃ (v5 : Option V) (p : Nat), σ' = [some (.ref r), some (.int (f0 : Nat)), some (.ref B), some (.ref D), some (.int (p : Nat)), v5] ∧ Same H H' ∧ H' B = some (.lst ((Reach.known rows f0 p).map nv)) ∧ H' D = some (.dK (trT (Reach.known rows f0 p))) ∧ p ≤ (Reach.ord rows f0).length ∧ i' + p = (Reach.ord rows f0).length, fun σ' H' z => z, ?_⟩
    refine ⟨_, rfl, _, rfl, _, rfl, B, _, _, nv a, rfl, rfl, SqL.of hBn, atI_nat (get_map ha), r, as.map V.ref, _, .ref b, rfl, rfl, Lf.SqT.same sn sr, atI_nat (get_map hb), b, rfl, ⟨_, Lf.SqT.same sn sb⟩, ?_⟩
    refine for_tup (K := K) (a := b) (xs := row.map nv) (fun j σ Hc => ∃ v5 : Option V, σ = [some (.ref r), some (.int (f0 : Nat)), some (.ref B), some (.ref D), some (.int (p : Nat)), v5] ∧ Same H Hc ∧ Hc B = some (.lst ((Reach.grow (Reach.known rows f0 p) (row.take j)).map nv)) ∧ Hc D = some (.dK (trT (Reach.grow (Reach.known rows f0 p) (row.take j)))))
      ⟨v5, rfl, sn, hBn, hDn⟩ (fun j σ Hc _ ⟨_, _, s, _⟩ => Lf.SqT.same s sb) (fun j z σ Hc hz ⟨v5, eσ, sc, hBc, hDc⟩ => ?_) (fun σ Hc ⟨v5, eσ, sc, hBc, hDc⟩ => ?_)
    · obtain ⟨x, hx, rfl⟩ := map_get hz
      subst eσ
      have gs : Reach.grow (Reach.known rows f0 p) (row.take (j + 1)) = Reach.put (Reach.grow (Reach.known rows f0 p) (row.take j)) x := by rw [take_snoc hx, Reach.grow_snoc]
      have gl : (Reach.grow (Reach.known rows f0 p) (row.take j)).length ≤ rows.length := Reach.nd_len (Reach.grow_nd Reach.known_nd) fun y hy => by
        rcases Reach.grow_mem.mp hy with h | h
        · exact Reach.known_lt RF h
        · exact RF.e row (List.mem_of_getElem? hrow) y (List.mem_of_mem_take h)
      generalize hg : Reach.grow (Reach.known rows f0 p) (row.take j) = L at gs gl hBc hDc ⊢
      refine ⟨_, rfl, _, rfl, D, valV (trT L) (ik x), rfl, DGet.k (k := ik x) hDc, ?_⟩
      by_cases hm : x ∈ L
      · rw [tr_some hm]
        refine ⟨_, rfl, ifF rfl ⟨_, rfl, sc, ?_⟩⟩
        rw [gs, Reach.put_in hm]
        exact ⟨hBc, hDc⟩
      · rw [tr_none hm]
        refine ⟨_, rfl, ifT rfl ?_⟩
        refine ⟨_, rfl, _, rfl, D, _, rfl, DPut.k (k := ik x) hDc (by rw [trT, List.length_map]; show L.length < 16777216; omega), ?_⟩
        rw [tr_put hm]
        have hB5 : L2.upd Hc D (.dK (trT (L ++ [x]))) B = some (.lst (L.map nv)) := by rw [upd_ne nDB.symm]; exact hBc
        have hD5 : L2.upd Hc D (.dK (trT (L ++ [x]))) D = some (.dK (trT (L ++ [x]))) := upd_same
        have s5 : Same H (L2.upd Hc D (.dK (trT (L ++ [x])))) := fun b o e => by
          rw [upd_ne (ne_of_none e nD0)]
          exact sc b o e
        generalize L2.upd Hc D (.dK (trT (L ++ [x]))) = H5 at s5 hB5 hD5 ⊢
        refine ⟨_, rfl, .inl ⟨rfl, _, SqL.of hB5⟩, _, rfl, B, _, _, rfl, rfl, hB5, by rw [List.length_map]; show L.length < 16777216; omega, ?_⟩
        refine ⟨_, rfl, fun b o e => ?_, ?_, ?_⟩
        · rw [upd_ne (ne_of_none e nB)]
          exact s5 b o e
        · rw [gs, Reach.put_new hm, List.map_append]
          exact upd_same
        · rw [gs, Reach.put_new hm, upd_ne nDB]
          exact hD5
    · subst eσ
      rw [List.length_map, List.take_length, ← ek] at hBc hDc
      exact ⟨_, rfl, _, _, rfl, rfl, i - 1, by omega, _, p + 1, rfl, sc, hBc, hDc, hpo, by omega⟩
end
end K16

set_option Elab.async false
set_option linter.all false
set_option maxRecDepth 100000
set_option maxHeartbeats 8000000
namespace K16
open PySem PySem.Spec PyProof.Rows L2 Lf
def spFormT (K : PySem.W.Frag) : Sp := fun vs H Q _ => ∃ r rows wd, vs = [.ref r] ∧ RowsT K H r rows ∧ Form rows wd ∧ ∀ H', Same H H' → Q .non H'
section
variable {P : Program} {w : World} {K : PySem.W.Frag} {mg : Str → Option Value} {base : Heap}
theorem ok_formT {f : Addr} {fd : FuncData} {q : Str} (F : FunD K "_check_form" q (defArgs s_check_form) (defBody s_check_form) (defScope s_check_form) [] [] f fd) (T : Txt P w K mg base)
    (DS : Def P w K mg base CX0 1 "is_sequence" ["thing", "least", "most"] (spSeq K)) (DB : Def P w K mg base CX0 2 "is_between" ["thing", "least", "most"] spBtw) :
    FnOk P w K mg base CX0 3 f fd ["right"] (spFormT K) := by
  obtain ⟨tM, gM⟩ := T.it 31 "MOST_SIZE" 2000 rfl
  obtain ⟨tL, gL⟩ := T.st 33 "LETTERS" "abcdef" rfl
  have zE : mg "enumerate" = none := T.fr 39 "enumerate" rfl
  have zn : mg "len" = none := T.fr 42 "len" rfl
  have za : mg "all" = none := T.fr 37 "all" rfl
  refine F.ok scForm (fun vs H Q E h => ?_) (fun cdv A outer s H vs Q E hr h => ?_)
  · obtain ⟨r, rows, wd, rfl, _⟩ := h
    rfl
  · obtain ⟨r, rows, wd, rfl, R, ⟨n1, n2, w1, w6, row⟩, k⟩ := h
    have r1 : Room 1 _ := hr.mono (by decide)
    refine ⟨_, PSs.nox (pss_cons (ps_if (pt_not (pt_val (pe_def DS r1 pass0 rfl (pa_cons (pv 0) (pa_cons pe_int (pa_cons (pe_gint rfl gM) pa_nil)))))) (pss_one ps_never) pss_nil)
      (pss_one (ps_for PassesOwn.never rfl (pi_enumA rfl zE (pv 0)) (pg_tup rfl (pgs_cons (pg_name (i := 1) scForm.nd rfl (.inl rfl)) (pgs_cons (pg_name (i := 2) scForm.nd rfl (.inl rfl)) pgs_nil)))
        (pss_cons (ps_if (PW.pt (pw_or (pt_not (pt_val (pe_def DS r1 pass0 rfl (pa_cons (pv 2) (pa_cons pe_int (pa_cons (pe_callB call_len_str rfl zn boot_len (pa_cons (pe_gstr rfl gL) pa_nil)) pa_nil))))))
            (pw_or1 (pt_cmpR op_ne (pe_callB call_len_seq rfl zn boot_len (pa_cons (pv 2) pa_nil)) (pe_callB call_len_seq rfl zn boot_len (pa_cons (pe_ix ix_tup (pv 0) pe_int (fun _ _ => rfl)) pa_nil)) (nomark _))))) (pss_one ps_never) pss_nil)
        (pss_one (ps_if (pt_not (pt_val (pe_callB (cr_all rfl) rfl za (by decide +kernel) (pa_cons (pe_lc (own := [("entry", 3)]) (g := gName 3) (te := teForm K) (by rfl) scForm.nd (pi_tup (pv 2)) (blkOk_by (own := [("entry", 3)]) (N := ["right", "place", "row", "entry"]) (sc := defScope s_check_form) (by decide +kernel)) (fun _ _ _ _ _ => pg_name (i := 3) scForm.nd rfl (Or.inl rfl)) (fun _ _ _ _ _ => pts_nil)
            (fun _ _ _ _ _ => by exact pe_def DB hr pass0 rfl (pa_cons (pv 3) (pa_cons pe_int (pa_cons (pe_op op_sub (pe_callB call_len_seq rfl zn boot_len (pa_cons (pv 0) pa_nil)) pe_int) pa_nil))))) pa_nil)))) (pss_one ps_never) pss_nil)))))), ?_⟩
    obtain ⟨as, sr, la, srow⟩ := R.ex
    have ln : (as.map V.ref).length = rows.length := by rw [List.length_map, la]
    refine ⟨_, rfl, r, as.map V.ref, 1, 2000, rfl, .inr sr, fun H1 s1 => ⟨_, rfl, ?_⟩⟩
    rw [seq_dec (by omega) (by omega)]
    refine ifF rfl ?_
    refine ⟨_, rfl, r, as.map V.ref, rfl, .inr ⟨Lf.SqT.same s1 sr, ?_⟩⟩
    have wk : Walk (Itet K r) (as.map V.ref).length (fun H2 => Same H H2) (fun i H v H' => ∃ T x, v = .ref T ∧ H T = none ∧ H' = L2.upd H T (.tup [.int (i : Nat), x]) ∧ (as.map V.ref)[i]? = some x) := (walk_enumT (xs := as.map V.ref)).mono (fun H s => Lf.SqT.same s sr) (fun i H x H' _ _ y => y)
    refine for_it wk (fun i σ H2 => ∃ v1 v2 : Option V, σ = [some (.ref r), v1, v2, none] ∧ Same H H2) ⟨none, none, rfl, s1⟩ (fun i σ H2 _ ⟨_, _, _, s⟩ => s) ?_ ?_
    · rintro i x σ H2 H3 hi ⟨v1, v2, rfl, s2⟩ ⟨T', y, rfl, nT, rfl, hy⟩
      obtain ⟨a, ha, rfl⟩ := map_get hy
      have hi2 : i < rows.length := by rw [← ln]; exact hi
      obtain ⟨rw_, hrw⟩ := lt_get hi2
      have sa := srow i a rw_ ha hrw
      obtain ⟨lw, ent⟩ := row rw_ (List.mem_of_getElem? hrw)
      refine ⟨T', _, rfl, SqT.of upd_same, rfl, _, _, rfl, _, _, rfl, rfl, ?_⟩
      have s3 := s2.trans (same_upd (o := .tup [.int (i : Nat), .ref a]) nT)
      generalize L2.upd H2 T' (.tup [.int (i : Nat), .ref a]) = H3 at s3 ⊢
      refine ⟨_, rfl, _, rfl, (by decide +kernel), a, rw_.map nv, 1, 6, rfl, .inr (Lf.SqT.same s3 sa), fun H4 s4 => ⟨_, rfl, ?_⟩⟩
      rw [List.length_map, seq_dec (by omega) (by omega)]
      refine ifF rfl ?_
      have s5 := s3.trans s4
      obtain ⟨a0, h0⟩ := lt_get (show 0 < as.length by omega)
      obtain ⟨rw0, hrw0⟩ := lt_get (show 0 < rows.length by omega)
      have lw0 := (row rw0 (List.mem_of_getElem? hrw0)).1
      refine ⟨_, rfl, a, rw_.map nv, rfl, .inr (Lf.SqT.same s5 sa), _, rfl, r, as.map V.ref, 0, .ref a0, rfl, rfl, Lf.SqT.same s5 sr, ?_, a0, rw0.map nv, rfl, .inr (Lf.SqT.same s5 (srow 0 a0 rw0 h0 hrw0)), rfl, _, rfl, ?_⟩
      · exact atI_nat (j := 0) (get_map h0)
      refine ifF (by simp [lw, lw0]) ?_
      refine ⟨_, rfl, a, rfl, ⟨_, Lf.SqT.same s5 sa⟩, fun D nD => ?_⟩
      refine lc_tup (K := K) (a := a) (xs := rw_.map nv) (fun j Hc => But D H4 Hc ∧ Hc D = some (.lst (List.replicate j (V.bl true)))) ⟨But.upd, upd_same⟩ (fun j Hc _ ⟨bc, _⟩ => Lf.SqT.same (Same.but (L2.Same.refl _) nD bc) (Lf.SqT.same s5 sa)) (fun j z Hc hz ⟨bc, hD⟩ => ?_) (fun Hc ⟨bc, hD⟩ => ?_)
      · obtain ⟨t, ht, rfl⟩ := map_get hz
        refine ⟨rfl, yesT ?_⟩
        have sc := s5.trans (Same.but (L2.Same.refl _) nD bc)
        refine ⟨_, rfl, _, rfl, r, as.map V.ref, rfl, .inr (Lf.SqT.same sc sr), _, 1, rfl, rfl, nv t, 0, _, rfl, True.intro, ?_⟩
        rw [ln, btw_nv (ent t (List.mem_of_getElem? ht))]
        refine ⟨_, hD, ?_, But.trans bc But.upd, ?_⟩
        · rw [List.length_replicate]
          have := get_lt ht
          show j < 16777216
          omega
        · rw [upd_same, List.replicate_succ']
      · rw [List.length_map] at hD
        have sc := s5.trans (Same.but (L2.Same.refl _) nD bc)
        refine ⟨D, List.replicate rw_.length true, rfl, SqL.of (by rw [List.map_replicate]; exact hD), ?_⟩
        rw [all_true]
        refine ⟨_, rfl, ?_⟩
        exact ifF rfl ⟨_, _, rfl, sc⟩
    · rintro σ H2 ⟨v1, v2, rfl, s2⟩
      exact k _ s2
end
end K16

set_option Elab.async false
set_option linter.all false
set_option maxRecDepth 100000
set_option maxHeartbeats 2000000
/-! Tuples of numbers, and rows of them, as data: equal, in, index. -/
namespace Lf
open PySem PySem.Spec PyProof.Rows L2
def dN (i : Nat) : PyData := .int ((i : Nat) : Int)
def dI (x : List Nat) : PyData := .tuple (x.map dN)
theorem all_lay {k : Nat} : ∀ {ds : List PyData}, (∀ d ∈ ds, d.canLay0 = true ∧ d.depth ≤ k) → PyData.canLayAll0 ds = true ∧ PyData.depthAll ds ≤ k
  | [], _ => by simp [PyData.canLayAll0, PyData.depthAll]
  | d :: ds, h => by
    obtain ⟨a, b⟩ := all_lay fun e he => h e (List.mem_cons_of_mem _ he)
    obtain ⟨c, e⟩ := h d List.mem_cons_self
    refine ⟨by simp [PyData.canLayAll0, a, c], ?_⟩
    rw [PyData.depthAll]
    omega
theorem tup_lay {k : Nat} {ds : List PyData} (h : ∀ d ∈ ds, d.canLay0 = true ∧ d.depth ≤ k) : (PyData.tuple ds).canLay0 = true ∧ (PyData.tuple ds).depth ≤ k + 1 := by
  obtain ⟨a, b⟩ := all_lay h
  refine ⟨by rw [PyData.canLay0]; exact a, ?_⟩
  rw [PyData.depth]
  omega
theorem lst_lay {k : Nat} {ds : List PyData} (h : ∀ d ∈ ds, d.canLay0 = true ∧ d.depth ≤ k) : (PyData.list ds).canLay0 = true ∧ (PyData.list ds).depth ≤ k + 1 := by
  obtain ⟨a, b⟩ := all_lay h
  refine ⟨by rw [PyData.canLay0]; exact a, ?_⟩
  rw [PyData.depth]
  omega
theorem sh_lay {d : PyData} {k : Nat} (h : d.canLay0 = true ∧ d.depth ≤ k) (hk : k ≤ 64) : SeqAt.shaped d = true := by
  unfold SeqAt.shaped
  rw [h.1, decide_eq_true (by omega)]
  rfl
theorem dN_lay (i : Nat) : (dN i).canLay0 = true ∧ (dN i).depth ≤ 0 := by simp [dN, PyData.canLay0, PyData.depth]
theorem dI_lay (x : List Nat) : (dI x).canLay0 = true ∧ (dI x).depth ≤ 0 + 1 := tup_lay fun d hd => by
  obtain ⟨i, _, rfl⟩ := List.mem_map.mp hd
  exact dN_lay i
theorem dI_sh (x : List Nat) : SeqAt.shaped (dI x) = true := sh_lay (dI_lay x) (by decide)
theorem rows_sh (l : List (List Nat)) : SeqAt.shaped (.list (l.map dI)) = true := sh_lay (lst_lay fun d hd => by
  obtain ⟨i, _, rfl⟩ := List.mem_map.mp hd
  exact dI_lay i) (by decide)
theorem trows_sh (l : List (List Nat)) : SeqAt.shaped (.tuple (l.map dI)) = true := sh_lay (tup_lay fun d hd => by
  obtain ⟨i, _, rfl⟩ := List.mem_map.mp hd
  exact dI_lay i) (by decide)
theorem ints_sh (l : List Nat) : SeqAt.shaped (.list (l.map dN)) = true := sh_lay (lst_lay fun d hd => by
  obtain ⟨i, _, rfl⟩ := List.mem_map.mp hd
  exact dN_lay i) (by decide)
theorem dI_eqv (x y : List Nat) : PyData.eqv (dI x) (dI y) = decide (x = y) := by
  have e : ∀ l : List Nat, l.map dN = (l.map fun i => ((i : Nat) : Int)).map PyData.int := fun l => by rw [List.map_map]; rfl
  unfold dI
  rw [PyData.eqv, e, e, PySem.W.ked_eqvAll]
  refine decide_eq_decide.mpr ⟨fun h => ?_, fun h => by rw [h]⟩
  exact List.map_inj_right (fun a b h => by omega) |>.mp h
section
variable {K : PySem.W.Frag} {H : Hp}
theorem dpN : ∀ {x : List Nat}, DpAll K H (x.map fun i => V.int (i : Nat)) (x.map dN)
  | [] => .nil
  | i :: x => .cons (.int _) dpN
theorem dpI {a : Addr} {x : List Nat} (h : SqT K H a (x.map fun i => V.int (i : Nat))) : Dp K H (.ref a) (dI x) := .tup h dpN
theorem dpR : ∀ {as : List Addr} {rows : List (List Nat)}, as.length = rows.length → (∀ (j : Nat) a x, as[j]? = some a → rows[j]? = some x → SqT K H a (x.map fun i => V.int (i : Nat))) → DpAll K H (as.map V.ref) (rows.map dI)
  | [], [], _, _ => .nil
  | a :: as, x :: rows, l, h => .cons (dpI (h 0 a x rfl rfl)) (dpR (by simpa using l) fun j b y h1 h2 => h (j + 1) b y h1 h2)
theorem any_dI {l : List (List Nat)} {x : List Nat} : ((l.map dI).any fun z => PyData.eqv z (dI x)) = decide (x ∈ l) := by
  rw [List.any_map]
  by_cases h : x ∈ l
  · rw [decide_eq_true h, List.any_eq_true]
    exact ⟨x, h, by show PyData.eqv (dI x) (dI x) = true; rw [dI_eqv]; simp⟩
  · rw [decide_eq_false h, List.any_eq_false]
    intro y hy e
    have : PyData.eqv (dI y) (dI x) = true := e
    rw [dI_eqv] at this
    exact h (of_decide_eq_true this ▸ hy)
/-- for l.index(x): x stands at j and nowhere else -/
theorem index_pre {l : List (List Nat)} {x : List Nat} {j : Nat} (nd : l.Nodup) (hj : l[j]? = some x) : (l.map dI)[j]? = some (dI x) ∧ PyData.eqv (dI x) (dI x) = true ∧ ∀ (k : Nat) z, k < j → (l.map dI)[k]? = some z → PyData.eqv z (dI x) = false := by
  refine ⟨by rw [List.getElem?_map, hj]; rfl, by rw [dI_eqv]; simp, fun k z kj hz => ?_⟩
  rw [List.getElem?_map] at hz
  obtain ⟨y, hy, rfl⟩ := Option.map_eq_some_iff.mp hz
  rw [dI_eqv]
  refine decide_eq_false fun e => ?_
  subst e
  have := (List.getElem?_inj (List.getElem?_eq_some_iff.mp hy).1 nd).mp (hy.trans hj.symm)
  omega
theorem in_dI {p c : Addr} {l : List (List Nat)} {x : List Nat} {Q : VK} (hl : Dp K H (.ref p) (.list (l.map dI))) (hx : Dp K H (.ref c) (dI x)) (q : Q (.bl (decide (x ∈ l))) H) : rInD K (.ref c) (.ref p) H Q :=
  ⟨dI x, l.map dI, hx, hl, dI_sh x, rows_sh l, by rw [any_dI]; exact q⟩
theorem ne_dI {a b : V} {d : PyData} {Q : VK} (ha : Dp K H a d) (hb : Dp K H b d) (sh : SeqAt.shaped d = true) (q : Q (.bl false) H) : rNeD K a b H Q :=
  ⟨d, d, ha, hb, sh, sh, by rw [SeqAt.eqv_refl _ (SeqAt.canLay_of_shaped sh)]; exact q⟩
theorem eq_dI {a b : V} {d : PyData} {Q : VK} (ha : Dp K H a d) (hb : Dp K H b d) (sh : SeqAt.shaped d = true) (q : Q (.bl true) H) : rEqD K a b H Q :=
  ⟨d, d, ha, hb, sh, sh, by rw [SeqAt.eqv_refl _ (SeqAt.canLay_of_shaped sh)]; exact q⟩
end
end Lf

set_option Elab.async false
set_option linter.all false
set_option maxRecDepth 100000
set_option maxHeartbeats 8000000
namespace K16
open PySem PySem.Spec PyProof.Rows L2 Lf
/-- a list of maps, as tuples -/
structure Maps (H : Hp) (p : Addr) (gens : List (List Nat)) : Prop where
  ex : ∃ as : List Addr, H p = some (.lst (as.map V.ref)) ∧ as.length = gens.length ∧ ∀ (i : Nat) a row, as[i]? = some a → gens[i]? = some row → H a = some (.tup (row.map nv))
theorem Maps.same {H H' : Hp} {p : Addr} {gens : List (List Nat)} (h : Maps H p gens) (e : Same H H') : Maps H' p gens := by
  obtain ⟨as, a, b, c⟩ := h.ex
  exact ⟨as, e _ _ a, b, fun i x row h1 h2 => e _ _ (c i x row h1 h2)⟩
theorem Maps.but {H H' : Hp} {l p : Addr} {a b c : Int} {gens : List (List Nat)} (hl : H l = some (.lst [.int a, .int b, .int c])) (h : Maps H p gens) (e : But l H H') : Maps H' p gens := by
  obtain ⟨as, h1, h2, h3⟩ := h.ex
  refine ⟨as, e _ _ (fun z => ?_) h1, h2, fun i x row g1 g2 => e _ _ (fun z => ?_) (h3 i x row g1 g2)⟩
  · rw [z, hl] at h1
    cases as with
    | nil => simp at h1
    | cons u r => simp at h1
  · have := h3 i x row g1 g2
    rw [z, hl] at this
    simp at this
theorem Src.un {H : Hp} {l : Addr} {n : Nat} (h : Src H l n) : ∃ a b c : Int, H l = some (.lst [.int a, .int b, .int c]) := by
  obtain ⟨a, b, c, e, _⟩ := h
  exact ⟨a, b, c, e⟩
theorem Src.ne {H : Hp} {l x : Addr} {n : Nat} (h : Src H l n) (nx : H x = none) : x ≠ l := fun z => by
  obtain ⟨a, b, c, e⟩ := h.un
  rw [← z, nx] at e
  cases e
theorem Src.upd {H : Hp} {l x : Addr} {n : Nat} {o : HO} (h : Src H l n) (nx : x ≠ l) : Src (L2.upd H x o) l n := by
  obtain ⟨a, b, c, e, r⟩ := h
  exact ⟨a, b, c, by rw [upd_ne nx.symm]; exact e, r⟩
def spMaps : Sp := fun vs H Q _ => ∃ (l : Addr) (n mp ml : Nat), vs = [.ref l, .int mp, .int ml] ∧ Src H l n ∧ n + 40 ≤ 1000000 ∧ 1 ≤ mp ∧ mp ≤ 4 ∧ 1 ≤ ml ∧ ml ≤ 6 ∧
  ∀ p gens size H', But l H H' → H p = none → Maps H' p gens → gens ≠ [] → gens.length ≤ 6 → 1 ≤ size → size ≤ 4 → (∀ g ∈ gens, Mon.Valid size g) → Src H' l (n + 40) → Q (.ref p) H'
abbrev teDraw : TE := fun σ H Q => (tCons (tVar 0) (tCons (tVar 3) tNil)) σ H fun vs H1 => spDraw vs H1 Q E0
abbrev teMap (K : PySem.W.Frag) : TE := tCB (rTup K) (tCons (tLc (iRng1 (tCons (tVar 3) tNil)) (gName 5) tYes teDraw [5]) tNil)
/-- the scope of the comprehension over the turns -/
def scTurn : Scope := { kind := .function, names := [(".0", .local), ("_law_turn", .local), ("tuple", .globalImplicit), ("range", .globalImplicit), ("_law_size", .cell), ("_law_source_here", .cell)], isGenerator := false, isCoroutine := false }
/-- one map -/
theorem one_map {K : PySem.W.Frag} {H : Hp} {l : Addr} {n size : Nat} {v1 v2 v4 v5 v6 : Option V} {Q : VK} (src : Src H l n) (n1 : n + size ≤ 1000000) (s1 : 1 ≤ size) (s4 : size ≤ 4)
    (k : ∀ t xs H', But l H H' → H t = none → H' t = some (.tup (xs.map nv)) → Mon.Valid size xs → Src H' l (n + size) → Q (.ref t) H') :
    teMap K [some (.ref l), v1, v2, some (.int (size : Nat)), v4, v5, v6] H Q := by
  refine ⟨_, rfl, (size : Nat), rfl, by omega, by omega, fun D nD => ?_⟩
  have nDl := src.ne nD
  refine lc_range (lo := 0) (n := size) (fun i Hc => (∀ b o, b ≠ l → b ≠ D → H b = some o → Hc b = some o) ∧ Src Hc l (n + i) ∧ ∃ acc : List Nat, Hc D = some (.lst (acc.map nv)) ∧ acc.length = i ∧ ∀ z ∈ acc, z < size) ⟨fun b o _ nb e => by rw [upd_ne nb]; exact e, src.upd nDl, [], upd_same, rfl, fun z hz => by cases hz⟩ (fun i Hc hi ⟨bc, sc, acc, hD, la, oa⟩ => ?_) (fun Hc ⟨bc, sc, acc, hD, la, oa⟩ => ?_)
  · refine ⟨rfl, yesT ?_⟩
    refine ⟨_, rfl, _, rfl, l, n + i, (size : Nat), rfl, sc, by omega, by omega, by omega, fun x H' x0 x1 b' src' => ?_⟩
    obtain ⟨x, rfl⟩ : ∃ x' : Nat, x = (x' : Nat) := ⟨x.toNat, by omega⟩
    have hD' := b' _ _ nDl hD
    refine ⟨_, hD', by rw [List.length_map, la]; show i < 16777216; omega, fun b o nl nb e => by rw [upd_ne nb]; exact b' _ _ nl (bc _ _ nl nb e), src'.upd nDl, acc ++ [x], by rw [upd_same]; simp, by simp [la], fun z hz => ?_⟩
    rcases List.mem_append.mp hz with h | h
    · exact oa z h
    · rw [List.mem_singleton.mp h]
      omega
  · refine ⟨D, _, rfl, .inl ⟨SqL.of hD, fun t nt => ?_⟩⟩
    have ntl := sc.ne nt
    have ntD : t ≠ D := fun z => by rw [z, hD] at nt; cases nt
    refine k t acc _ (fun b o nl e => ?_) ?_ upd_same ⟨la, oa⟩ (sc.upd ntl)
    · have nb : b ≠ D := ne_of_none e nD
      have nt' : b ≠ t := ne_of_none (bc _ _ nl nb e) nt
      rw [upd_ne nt']
      exact bc _ _ nl nb e
    · cases e : H t with
      | none => rfl
      | some o => rw [bc _ _ ntl ntD e] at nt; cases nt
section
variable {P : Program} {w : World} {K : PySem.W.Frag} {mg : Str → Option Value} {base : Heap}
theorem scMaps : FnScope ["_law_source_here", "_law_most_points", "_law_most_letters", "_law_size", "_law_many", "_law_point", "_law_turn"] ["_law_source_here", "_law_most_points", "_law_most_letters"] (defScope s_L_maps) := ⟨rfl, rfl, rfl, by decide +kernel, rfl, by decide +kernel, by decide +kernel⟩
theorem ok_maps {f : Addr} {fd : FuncData} {q : Str} (F : FunD K "_law_maps" q (defArgs s_L_maps) (defBody s_L_maps) (defScope s_L_maps) [] [] f fd) (zr : mg "range" = none) (zt : mg "tuple" = none)
    (DD : Def P w K mg base CX0 1 "_law_draw" ["_law_source_here", "_law_many"] spDraw) :
    FnOk P w K mg base CX0 2 f fd ["_law_source_here", "_law_most_points", "_law_most_letters"] spMaps := by
  refine F.ok scMaps (fun vs H Q E h => ?_) (fun cdv A outer s H vs Q E hr h => ?_)
  · obtain ⟨l, n, mp, ml, rfl, _⟩ := h
    rfl
  · obtain ⟨l, n, mp, ml, rfl, src, n1, p1, p4, m1, m6, k⟩ := h
    refine ⟨_, PSs.nox (pss_cons (ps_asg (pe_tup (pa_cons (pe_op op_add pe_int (pe_def DD hr pass0 rfl (pa_cons (pv 0) (pa_cons (pv 1) pa_nil)))) (pa_cons (pe_op op_add pe_int (pe_def DD hr pass0 rfl (pa_cons (pv 0) (pa_cons (pv 2) pa_nil)))) pa_nil)))
        (pg_tup rfl (pgs_cons (pg_name (i := 3) scMaps.nd rfl (.inr rfl)) (pgs_cons (pg_name (i := 4) scMaps.nd rfl (.inl rfl)) pgs_nil))))
      (pss_one (ps_ret (pe_lc (own := [("_law_turn", 6)]) (g := gName 6) (te := teMap K) (by rfl) scMaps.nd (pi_range1 rfl zr (pa_cons (pv 4) pa_nil)) (blkOk_by (own := [("_law_turn", 6)]) (N := ["_law_source_here", "_law_most_points", "_law_most_letters", "_law_size", "_law_many", "_law_point", "_law_turn"]) (sc := defScope s_L_maps) (by decide +kernel)) (fun _ _ _ _ _ => pg_name (i := 6) scMaps.nd rfl (Or.inl rfl)) (fun _ _ _ _ _ => pts_nil)
        (fun _ _ _ _ _ => by exact pe_callTy call_tuple_of rfl zt PyProof.Rows.boot_tuple (pa_cons (pe_lc (own := [("_law_point", 5)]) (g := gName 5) (te := teDraw) (by rfl) scMaps.nd (pi_range1 rfl zr (pa_cons (pv 3) pa_nil)) (blkOk_by (own := [("_law_point", 5)]) (N := ["_law_source_here", "_law_most_points", "_law_most_letters", "_law_size", "_law_many", "_law_point", "_law_turn"]) (sc := scTurn) (by decide +kernel)) (fun _ _ _ _ _ => pg_name (i := 5) scMaps.nd rfl (Or.inl rfl)) (fun _ _ _ _ _ => pts_nil)
          (fun _ _ _ _ _ => by exact pe_def DD hr pass0 rfl (pa_cons (pv 0) (pa_cons (pv 3) pa_nil)))) pa_nil)))))), ?_⟩
    refine ⟨_, rfl, _, rfl, l, n, (mp : Nat), rfl, src, by omega, by omega, by omega, fun x H1 x0 x1 b1 src1 => ?_⟩
    refine ⟨1, x, rfl, rfl, _, rfl, _, rfl, l, n + 1, (ml : Nat), rfl, src1, by omega, by omega, by omega, fun y H2 y0 y1 b2 src2 => ?_⟩
    refine ⟨1, y, rfl, rfl, ?_⟩
    refine ⟨(by show 2 ≤ sizeLine; decide), fun T nT => ?_⟩
    refine ⟨T, _, rfl, SqT.of upd_same, rfl, _, _, rfl, _, _, rfl, rfl, ?_⟩
    obtain ⟨x, rfl⟩ : ∃ x' : Nat, x = (x' : Nat) := ⟨x.toNat, by omega⟩
    obtain ⟨y, rfl⟩ : ∃ y' : Nat, y = (y' : Nat) := ⟨y.toNat, by omega⟩
    have ex : (1 : Int) + (x : Nat) = ((1 + x : Nat) : Int) := by omega
    have ey : (1 : Int) + (y : Nat) = ((1 + y : Nat) : Int) := by omega
    have nTl := src2.ne nT
    have src3 := src2.upd (o := .tup [.int (1 + (x : Nat)), .int (1 + (y : Nat))]) nTl
    have b3 : But l H (L2.upd H2 T (.tup [.int (1 + (x : Nat)), .int (1 + (y : Nat))])) := But.trans (b1.trans b2) (But.of (same_upd nT))
    generalize L2.upd H2 T (.tup [.int (1 + (x : Nat)), .int (1 + (y : Nat))]) = H3 at src3 b3 ⊢
    refine ⟨_, rfl, ((1 + y : Nat) : Int), congrArg (fun z => [V.int z]) ey, by omega, by omega, fun D nD => ?_⟩
    have nDl := src3.ne nD
    refine lc_range (lo := 0) (n := 1 + y) (fun i Hc => (∀ b o, b ≠ l → b ≠ D → H3 b = some o → Hc b = some o) ∧ Src Hc l (n + 2 + i * 4) ∧ ∃ (as : List Addr) (gens : List (List Nat)), Hc D = some (.lst (as.map V.ref)) ∧ as.length = i ∧ gens.length = i ∧ (∀ (j : Nat) a row, as[j]? = some a → gens[j]? = some row → Hc a = some (.tup (row.map nv))) ∧ ∀ g ∈ gens, Mon.Valid (1 + x) g)
      ⟨fun b o _ nb e => by rw [upd_ne nb]; exact e, src3.upd nDl, [], [], upd_same, rfl, rfl, fun j a row h => by simp at h, fun z hz => by cases hz⟩ (fun i Hc hi ⟨bc, sc, as, gens, hD, la, lg, el, vl⟩ => ?_) (fun Hc ⟨bc, sc, as, gens, hD, la, lg, el, vl⟩ => ?_)
    · refine ⟨rfl, yesT ?_⟩
      show teMap K [some (.ref l), _, _, some (.int (1 + (x : Nat))), _, _, _] Hc _
      rw [ex]
      refine one_map sc (by omega) (by omega) (by omega) fun t xs H' b' nt ht va src' => ?_
      have hD' := b' _ _ nDl hD
      have ntD : t ≠ D := fun z => by rw [z, hD] at nt; cases nt
      refine ⟨_, hD', by rw [List.length_map, la]; show i < 16777216; omega, fun b o nl nb e => by rw [upd_ne nb]; exact b' _ _ nl (bc _ _ nl nb e), (src'.upd nDl).up (by omega), as ++ [t], gens ++ [xs], by rw [upd_same]; simp, by simp [la], by simp [lg], fun j a row h1 h2 => ?_, fun g hg => ?_⟩
      · by_cases hj : j < i
        · rw [List.getElem?_append_left (by omega)] at h1 h2
          have e0 := el j a row h1 h2
          have nal : a ≠ l := fun z => by
            obtain ⟨u, v, w', e, _⟩ := sc
            rw [z, e] at e0
            cases e0
          have naD : a ≠ D := fun z => by
            rw [z, hD] at e0
            cases e0
          rw [upd_ne naD]
          exact b' _ _ nal e0
        · have ej : j = i := by
            have := get_lt h1
            simp at this
            omega
          subst ej
          rw [List.getElem?_append_right (by omega), la, Nat.sub_self] at h1
          rw [List.getElem?_append_right (by omega), lg, Nat.sub_self] at h2
          cases h1
          cases h2
          rw [upd_ne ntD]
          exact ht
      · rcases List.mem_append.mp hg with h | h
        · exact vl g h
        · rw [List.mem_singleton.mp h]
          exact va
    · have hDn : H D = none := by
        cases e : H D with
        | none => rfl
        | some o => rw [b3 _ _ nDl e] at nD; cases nD
      refine k D gens (1 + x) Hc (fun b o nl e => bc _ _ nl (ne_of_none e hDn) (b3 _ _ nl e)) hDn ⟨as, hD, by omega, el⟩ (fun z => ?_) (by omega) (by omega) (by omega) vl (sc.up (by omega))
      rw [z] at lg
      simp at lg
      omega
end
end K16

set_option Elab.async false
set_option linter.all false
set_option maxRecDepth 100000
set_option maxHeartbeats 8000000
namespace K16
open PySem PySem.Spec PyProof.Rows L2 Lf
structure OwnC (K : PySem.W.Frag) (x : Str) : Prop where
  ha : PySem.W.findIn K (.ref (He.ga K x)) "__class__" = some (some (.builtin "object.__class__"))
  hn : PySem.W.specialIn K (.builtin "object.__class__") "__get__" = some (some (.builtin "getset_descriptor.__get__"))
  tk : PySem.W.takesIn K (.builtin "object.__class__") = some true
  hm : PySem.W.mroIn K (He.ga K x) (.type "object") = some true
  no : ∀ b ∈ ["int", "bool", "str", "list", "tuple"], PySem.W.kitOne K (.ref (He.ga K x)) (.type b) = some false
  on : ∀ b ∈ ["NoneType", "int", "bool", "str", "list", "tuple", "dict"], PySem.W.kitOne K (.type b) (.ref (He.ga K x)) = some false
  is : ∀ y ∈ owns, PySem.W.kitOne K (.ref (He.ga K x)) (.ref (He.ga K y)) = some (decide (x = y))
theorem ownB_ok {K : PySem.W.Frag} {x : Str} (h : ownB K x = true) : OwnC K x := by
  unfold ownB at h
  simp only [Bool.and_eq_true, decide_eq_true_eq, List.all_eq_true] at h
  obtain ⟨a, b, c, d, e, f, g⟩ := h
  exact ⟨a, b, c, d, e, f, g⟩
abbrev cls (K : PySem.W.Frag) : List Addr := owns.map fun y => He.ga K y
section
variable {P : Program} {w : World} {K : PySem.W.Frag} {mg : Str → Option Value} {base : Heap}
theorem Txt.own (T : Txt P w K mg base) {x : Str} (h : x ∈ owns) : OwnC K x :=
  ownB_ok (List.all_eq_true.mp (He.ba (He.ba (He.ba T.m).2).2).1 x h)
theorem Txt.ops (T : Txt P w K mg base) {x : Str} (h : x ∈ opsl) : Ops K (cls K) (He.ga K x) :=
  ops_ok (List.all_eq_true.mp (He.ba (He.ba (He.ba T.m).2).2).2 x h)
theorem OwnC.ty {x : Str} {H : Hp} {a dx : Addr} {fs : List (Str × V)} (o : OwnC K x) (cl : L2.Cls K (He.ga K x)) (h : H a = some (.ins (He.ga K x) dx fs)) : TyX K H (.ref a) (.ref (He.ga K x)) := .base (.ins h cl o.ha o.hn o.tk o.hm)
end
theorem RowsT.dp {K : PySem.W.Frag} {H : Hp} {r : Addr} {rows : List (List Nat)} (h : RowsT K H r rows) : Dp K H (.ref r) (.tuple (rows.map dI)) := by
  obtain ⟨as, a, b, c⟩ := h.ex
  exact .tup a (dpR b c)
theorem trows_eqv : ∀ (r s : List (List Nat)), PyData.eqvAll (r.map dI) (s.map dI) = decide (r = s)
  | [], [] => by simp [PyData.eqvAll]
  | [], y :: s => by simp [PyData.eqvAll]
  | x :: r, [] => by simp [PyData.eqvAll]
  | x :: r, y :: s => by
    rw [List.map_cons, List.map_cons, PyData.eqvAll, dI_eqv, trows_eqv r s]
    by_cases h : x = y <;> by_cases h2 : r = s <;> simp [h, h2]
def spEq (K : PySem.W.Frag) : Sp := fun vs H Q _ => ∃ a b rows rows' m m', vs = [.ref a, .ref b] ∧ Mo K H a rows m ∧ Mo K H b rows' m' ∧ Q (.bl (decide (rows = rows'))) H
def spPick : Sp := fun vs H Q _ => ∃ l n ls ys, vs = [.ref l, .ref ls] ∧ Src H l n ∧ n ≤ 1000000 ∧ H ls = some (.lst ys) ∧ ls ≠ l ∧ 0 < ys.length ∧ ys.length ≤ 1000 ∧ ∀ (k : Nat) y H', ys[k]? = some y → But l H H' → Src H' l (n + 1) → Q y H'
section
variable {P : Program} {w : World} {K : PySem.W.Frag} {mg : Str → Option Value} {base : Heap}
theorem scEq : FnScope ["self", "other"] ["self", "other"] (defScope s_Monoid_eq) := ⟨rfl, rfl, rfl, by decide +kernel, rfl, by decide +kernel, by decide +kernel⟩
theorem ok_eq {f : Addr} {fd : FuncData} {q : Str} (F : FunD K "__eq__" q (defArgs s_Monoid_eq) (defBody s_Monoid_eq) (defScope s_Monoid_eq) [] [] f fd) (T : Txt P w K mg base) : FnOk P w K mg base CX0 1 f fd ["self", "other"] (spEq K) := by
  have zI : mg "isinstance" = none := T.fr 41 "isinstance" rfl
  have g0 := T.gl 4 "Monoid" rfl
  have c0 : L2.Cls K (He.ga K "Monoid") := He.cls_ok (T.d.fact 49 (f := .cls "Monoid") rfl)
  have n0 : NoAttr K (He.ga K "Monoid") "right" := He.noat_ok (T.d.fact 65 (f := .noat "Monoid" "right") rfl)
  refine F.ok scEq (fun vs H Q E h => ?_) (fun cdv A outer s H vs Q E hr h => ?_)
  · obtain ⟨a, b, rows, rows', m, m', rfl, _⟩ := h
    rfl
  · obtain ⟨a, b, rows, rows', m, m', rfl, ⟨dx, t, u, v, ha, qa, _⟩, ⟨dy, t', u', v', hb, qb, _⟩, k⟩ := h
    refine ⟨_, PSs.nox (pss_one (ps_ret (pe_and (pe_callB call_isi rfl zI PyProof.Rows.boot_isinstance (pa_cons (pv 1) (pa_cons (pe_cl rfl g0) pa_nil))) (pe_one (pe_cmpR (op_eqD hr.units) (pe_fld (pv 0) rfl) (pe_fld (pv 1) rfl) (nomark _)))))), ?_⟩
    have ty := (T.own (x := "Monoid") (by decide)).ty c0 hb
    have is := (T.own (x := "Monoid") (by decide)).is "Monoid" (by decide)
    refine ⟨_, rfl, _, .ref _, _, _, _, rfl, .own _, ty, is, _, rfl, ?_⟩
    refine ifT (by decide +kernel) ?_
    refine ⟨_, rfl, _, _, _, _, _, rfl, ha, c0, n0, rfl, _, rfl, _, _, _, _, _, rfl, hb, c0, n0, rfl, ?_⟩
    refine ⟨_, _, qa.dp, qb.dp, trows_sh rows, trows_sh rows', ?_⟩
    rw [PyData.eqv, trows_eqv]
    exact k
theorem scPick : FnScope ["_law_source_here", "_law_some"] ["_law_source_here", "_law_some"] (defScope s_L_pick) := ⟨rfl, rfl, rfl, by decide +kernel, rfl, by decide +kernel, by decide +kernel⟩
theorem ok_pick {f : Addr} {fd : FuncData} {q : Str} (F : FunD K "_law_pick" q (defArgs s_L_pick) (defBody s_L_pick) (defScope s_L_pick) [] [] f fd) (zn : mg "len" = none)
    (DD : Def P w K mg base CX0 1 "_law_draw" ["_law_source_here", "_law_many"] spDraw) :
    FnOk P w K mg base CX0 2 f fd ["_law_source_here", "_law_some"] spPick := by
  refine F.ok scPick (fun vs H Q E h => ?_) (fun cdv A outer s H vs Q E hr h => ?_)
  · obtain ⟨l, n, ls, ys, rfl, _⟩ := h
    rfl
  · obtain ⟨l, n, ls, ys, rfl, src, n1, hls, nl, y0, y1, k⟩ := h
    refine ⟨_, PSs.nox (pss_one (ps_ret (pe_ix ix_list (pv 1) (pe_def DD hr pass0 rfl (pa_cons (pv 0) (pa_cons (pe_callB call_len_seq rfl zn boot_len (pa_cons (pv 1) pa_nil)) pa_nil))) (fun _ _ => rfl)))), ?_⟩
    refine ⟨_, rfl, _, rfl, _, rfl, ls, ys, rfl, .inl (SqL.of hls), l, n, _, rfl, src, n1, by omega, by omega, fun j H1 j0 j1 b1 src1 => ?_⟩
    obtain ⟨j, rfl⟩ : ∃ j' : Nat, j = (j' : Nat) := ⟨j.toNat, by omega⟩
    obtain ⟨y, hy⟩ := lt_get (show j < ys.length by omega)
    exact ⟨ls, ys, _, y, rfl, rfl, SqL.of (b1 _ _ nl hls), atI_nat hy, k j y H1 hy b1 src1⟩
end
end K16

set_option Elab.async false
set_option linter.all false
set_option maxRecDepth 100000
set_option maxHeartbeats 4000000
/-! Products of maps, found one by one: pure. -/
namespace Lf
open PySem PySem.Spec PyProof.Rows L2
/-- numbers as the key of a dict -/
def kt (x : List Nat) : List Key := x.map fun i => (Sum.inl ((i : Nat) : Int) : Key)
theorem kt_map {x : List Nat} : (kt x).map kV = x.map fun i => V.int (i : Nat) := by
  unfold kt
  rw [List.map_map]
  rfl
theorem kt_inj : ∀ {x y : List Nat}, kt x = kt y → x = y
  | [], [], _ => rfl
  | [], _ :: _, h => by simp [kt] at h
  | _ :: _, [], h => by simp [kt] at h
  | a :: r, b :: s, h => by
    unfold kt at h
    rw [List.map_cons, List.map_cons] at h
    injection h with h1 h2
    have e : ((a : Int)) = (b : Int) := Sum.inl.inj h1
    rw [show a = b by omega, kt_inj (x := r) (y := s) h2]
/-- a dict of numbers by their place -/
def dtabF : Nat → List (List Nat) → List (List Key × V)
  | _, [] => []
  | k, x :: r => (kt x, .int (k : Nat)) :: dtabF (k + 1) r
abbrev dtab (f : List (List Nat)) : List (List Key × V) := dtabF 0 f
theorem dtabF_len : ∀ {f : List (List Nat)} {k : Nat}, (dtabF k f).length = f.length
  | [], _ => rfl
  | x :: r, k => by rw [dtabF, List.length_cons, dtabF_len, List.length_cons]
theorem dtabF_snoc {x : List Nat} : ∀ {f : List (List Nat)} {k : Nat}, dtabF k (f ++ [x]) = dtabF k f ++ [(kt x, .int (k + f.length : Nat))]
  | [], k => rfl
  | y :: r, k => by
    rw [List.cons_append, dtabF, dtabF, dtabF_snoc, List.cons_append, List.length_cons, show k + 1 + r.length = k + (r.length + 1) by omega]
theorem dtabF_none {x : List Nat} : ∀ {f : List (List Nat)} {k : Nat}, x ∉ f → valV (dtabF k f) (kt x) = none
  | [], _, _ => rfl
  | y :: r, k, h => by
    have hy : ¬ kt y = kt x := fun z => h (by rw [kt_inj z]; exact List.mem_cons_self)
    rw [dtabF, valV_neg (p := (kt y, V.int (k : Nat))) hy]
    exact dtabF_none fun z => h (List.mem_cons_of_mem _ z)
theorem dtabF_some {x : List Nat} : ∀ {f : List (List Nat)} {k i : Nat}, f.Nodup → f[i]? = some x → valV (dtabF k f) (kt x) = some (.int (k + i : Nat))
  | [], _, _, _, h => by simp at h
  | y :: r, k, 0, _, h => by
    cases h
    rw [dtabF, valV_pos (p := (kt x, V.int (k : Nat))) rfl]
    rfl
  | y :: r, k, i + 1, nd, h => by
    have hm : r[i]? = some x := h
    obtain ⟨h1, h2⟩ := List.nodup_cons.mp nd
    have hy : ¬ kt y = kt x := fun z => h1 (by rw [kt_inj z]; exact List.mem_of_getElem? hm)
    rw [dtabF, valV_neg (p := (kt y, V.int (k : Nat))) hy, dtabF_some h2 hm, show k + 1 + i = k + (i + 1) by omega]
theorem dtab_put {x : List Nat} {f : List (List Nat)} (h : x ∉ f) : putK (dtab f) (kt x) (.int (f.length : Nat)) = dtab (f ++ [x]) := by
  rw [putK_new _ (dtabF_none h), dtab, dtabF_snoc, Nat.zero_add]
end Lf
namespace Mon
/-- the words of what was met -/
def wordStep (L : List (List Nat)) (p : Nat × Nat) : List (List Nat) := L ++ [L.getD p.1 [] ++ [p.2]]
def wordTab (m : List (Nat × Nat)) : List (List Nat) := m.foldl wordStep [[]]
theorem word_snoc {m : List (Nat × Nat)} {p : Nat × Nat} : wordTab (m ++ [p]) = wordStep (wordTab m) p := by
  unfold wordTab
  rw [List.foldl_append]
  rfl
theorem word_len : ∀ {m : List (Nat × Nat)}, (wordTab m).length = m.length + 1 := by
  intro m
  unfold wordTab
  suffices h : ∀ (m : List (Nat × Nat)) (L : List (List Nat)), (m.foldl wordStep L).length = L.length + m.length by
    rw [h]
    show 1 + m.length = _
    omega
  intro m
  induction m with
  | nil => intro L; rfl
  | cons p r ih =>
    intro L
    rw [List.foldl_cons, ih, wordStep, List.length_append, List.length_cons, List.length_cons, List.length_nil]
    omega
/-- the search at letter c of row i -/
structure Bfs (n : Nat) (gens : List (List Nat)) (i c : Nat) (found rows : List (List Nat)) (row : List Nat) (m : List (Nat × Nat)) : Prop where
  nd : found.Nodup
  val : ∀ x ∈ found, Valid n x
  gval : ∀ g ∈ gens, Valid n g
  head : found[0]? = some (idm n)
  len : rows.length = i
  wid : ∀ (j : Nat) r, rows[j]? = some r → r.length = gens.length
  ent : ∀ (j : Nat) r, rows[j]? = some r → ∀ (k t : Nat), r[k]? = some t → ∃ x g, found[j]? = some x ∧ gens[k]? = some g ∧ found[t]? = some (comp x g)
  rlen : row.length = c
  rent : ∀ (k t : Nat), row[k]? = some t → ∃ x g, found[i]? = some x ∧ gens[k]? = some g ∧ found[t]? = some (comp x g)
  made : ∃ m0, madeTab 0 rows [] = some m0 ∧ (c ≠ 0 → i < m0.length + 1) ∧ madeRow i 0 row m0 = some m
  mlen : m.length + 1 = found.length
  le : i ≤ found.length
theorem Bfs.few {n : Nat} {gens found rows : List (List Nat)} {i c : Nat} {row : List Nat} {m : List (Nat × Nat)} (B : Bfs n gens i c found rows row m) : found.length ≤ n ^ n := maps_few B.nd B.val
theorem Bfs.start {n : Nat} {gens : List (List Nat)} (gv : ∀ g ∈ gens, Valid n g) : Bfs n gens 0 0 [idm n] [] [] [] where
  nd := by simp
  val := fun x hx => by rw [List.mem_singleton.mp hx]; exact idm_valid
  gval := gv
  head := rfl
  len := rfl
  wid := fun j r h => by simp at h
  ent := fun j r h => by simp at h
  rlen := rfl
  rent := fun k t h => by simp at h
  made := ⟨[], rfl, fun z => (z rfl).elim, rfl⟩
  mlen := rfl
  le := Nat.zero_le _
theorem get_app {α : Type} {l : List α} {i : Nat} {x : α} (y : α) (h : l[i]? = some x) : (l ++ [y])[i]? = some x := by
  rw [List.getElem?_append_left (List.getElem?_eq_some_iff.mp h).1]
  exact h
theorem snoc_cases {α : Type} {l : List α} {j : Nat} {x y : α} (h : (l ++ [y])[j]? = some x) : l[j]? = some x ∨ j = l.length ∧ x = y := by
  by_cases hj : j < l.length
  · rw [List.getElem?_append_left hj] at h
    exact .inl h
  · have := (List.getElem?_eq_some_iff.mp h).1
    rw [List.length_append, List.length_singleton] at this
    have e : j = l.length := by omega
    subst e
    rw [List.getElem?_append_right (Nat.le_refl _), Nat.sub_self] at h
    exact .inr ⟨rfl, (Option.some.inj h).symm⟩
section
variable {n : Nat} {gens found rows : List (List Nat)} {i c : Nat} {row : List Nat} {m : List (Nat × Nat)}
/-- a product that was met before -/
theorem Bfs.old (B : Bfs n gens i c found rows row m) {x g : List Nat} {t : Nat} (hx : found[i]? = some x) (hg : gens[c]? = some g) (ht : found[t]? = some (comp x g)) : Bfs n gens i (c + 1) found rows (row ++ [t]) m := by
  obtain ⟨m0, a1, a2, a3⟩ := B.made
  have tl := (List.getElem?_eq_some_iff.mp ht).1
  have il := (List.getElem?_eq_some_iff.mp hx).1
  have ml := B.mlen
  refine { B with rlen := by rw [List.length_append, B.rlen]; rfl, rent := fun k u h => ?_, made := ⟨m0, a1, fun _ => ?_, ?_⟩ }
  · rcases snoc_cases h with h | ⟨rfl, rfl⟩
    · exact B.rent k u h
    · exact ⟨x, g, hx, by rw [B.rlen]; exact hg, ht⟩
  · by_cases hc : c = 0
    · subst hc
      have : row = [] := List.length_eq_zero_iff.mp B.rlen
      subst this
      have e : m0 = m := Option.some.inj a3
      subst e
      omega
    · exact a2 hc
  · rw [madeRow_snoc, a3, Option.bind_some, if_neg (by omega), if_neg (by omega)]
/-- a new one -/
theorem Bfs.new (B : Bfs n gens i c found rows row m) {x g : List Nat} (hx : found[i]? = some x) (hg : gens[c]? = some g) (hn : comp x g ∉ found) : Bfs n gens i (c + 1) (found ++ [comp x g]) rows (row ++ [found.length]) (m ++ [(i, c)]) := by
  obtain ⟨m0, a1, a2, a3⟩ := B.made
  have il := (List.getElem?_eq_some_iff.mp hx).1
  have ml := B.mlen
  refine ⟨?_, fun z hz => ?_, B.gval, get_app _ B.head, B.len, B.wid, fun j r hr k t ht => ?_, by rw [List.length_append, B.rlen]; rfl, fun k t h => ?_, ⟨m0, a1, fun _ => ?_, ?_⟩, by simp [ml], by rw [List.length_append]; omega⟩
  · rw [List.nodup_append]
    refine ⟨B.nd, by simp, fun a ha b hb e => ?_⟩
    rw [e, List.mem_singleton.mp hb] at ha
    exact hn ha
  · rcases List.mem_append.mp hz with h | h
    · exact B.val z h
    · rw [List.mem_singleton.mp h]
      exact comp_valid (B.val x (List.mem_of_getElem? hx)) (B.gval g (List.mem_of_getElem? hg))
  · obtain ⟨u, v, h1, h2, h3⟩ := B.ent j r hr k t ht
    exact ⟨u, v, get_app _ h1, h2, get_app _ h3⟩
  · rcases snoc_cases h with h | ⟨rfl, rfl⟩
    · obtain ⟨u, v, h1, h2, h3⟩ := B.rent k t h
      exact ⟨u, v, get_app _ h1, h2, get_app _ h3⟩
    · refine ⟨x, g, get_app _ hx, by rw [B.rlen]; exact hg, ?_⟩
      rw [List.getElem?_append_right (Nat.le_refl _), Nat.sub_self]
      rfl
  · by_cases hc : c = 0
    · subst hc
      have : row = [] := List.length_eq_zero_iff.mp B.rlen
      subst this
      have e : m0 = m := Option.some.inj a3
      subst e
      omega
    · exact a2 hc
  · rw [madeRow_snoc, a3, Option.bind_some, if_neg (by omega), if_pos ml.symm, Nat.zero_add, B.rlen]
/-- the end of a row -/
theorem Bfs.next (B : Bfs n gens i c found rows row m) (hc : c = gens.length) (c0 : c ≠ 0) {x : List Nat} (hx : found[i]? = some x) : Bfs n gens (i + 1) 0 found (rows ++ [row]) [] m := by
  obtain ⟨m0, a1, a2, a3⟩ := B.made
  have il := (List.getElem?_eq_some_iff.mp hx).1
  refine ⟨B.nd, B.val, B.gval, B.head, by rw [List.length_append, B.len]; rfl, fun j r h => ?_, fun j r h k t ht => ?_, rfl, fun k t h => by simp at h, ⟨m, ?_, fun z => (z rfl).elim, rfl⟩, B.mlen, il⟩
  · rcases snoc_cases h with h | ⟨rfl, rfl⟩
    · exact B.wid j r h
    · rw [B.rlen, hc]
  · rcases snoc_cases h with h | ⟨rfl, rfl⟩
    · exact B.ent j r h k t ht
    · rw [B.len]
      exact B.rent k t ht
  · rw [madeTab_snoc, a1, Option.bind_some, Nat.zero_add, B.len, if_neg (by have := a2 c0; omega)]
    exact a3
/-- the end of the search -/
theorem Bfs.tab (B : Bfs n gens i 0 found rows [] m) (h : found.length ≤ i) : Tab n gens found rows ∧ madeTab 0 rows [] = some m ∧ m.length + 1 = rows.length := by
  obtain ⟨m0, a1, a2, a3⟩ := B.made
  have e : m0 = m := Option.some.inj a3
  subst e
  have le := B.le
  have l := B.len
  have ml := B.mlen
  exact ⟨⟨B.nd, B.val, B.gval, B.head, by omega, B.wid, B.ent⟩, a1, by omega⟩
end
end Mon

set_option Elab.async false
set_option linter.all false
set_option maxRecDepth 100000
set_option maxHeartbeats 4000000
/-! How many words lead to each element: pure. -/
namespace Mon
/-- how often each number below N stands in I -/
def cvec (N : Nat) (I : List Nat) : List Nat := (List.range N).map fun k => I.count k
theorem cvec_len {N : Nat} {I : List Nat} : (cvec N I).length = N := by simp [cvec]
theorem cvec_get {N k : Nat} {I : List Nat} (h : k < N) : (cvec N I)[k]? = some (I.count k) := by simp [cvec, h]
def bump (f : List Nat) (t many : Nat) : List Nat := f.set t (f.getD t 0 + many)
def rowBump (f row : List Nat) (many : Nat) : List Nat := row.foldl (fun f t => bump f t many) f
def stepF (f : List Nat) : List (List Nat) → List Nat → List Nat
  | row :: rows, c :: cs => stepF (rowBump f row c) rows cs
  | _, _ => f
def stepC (rows : List (List Nat)) (cs : List Nat) : List Nat := stepF (List.replicate rows.length 0) rows cs
def dp (rows : List (List Nat)) : Nat → List Nat
  | 0 => (List.replicate rows.length 0).set 0 1
  | t + 1 => stepC rows (dp rows t)
theorem bump_len {f : List Nat} {t many : Nat} : (bump f t many).length = f.length := by simp [bump]
theorem rowBump_len : ∀ {row f : List Nat} {many : Nat}, (rowBump f row many).length = f.length
  | [], f, many => rfl
  | t :: row, f, many => by
    show (rowBump (bump f t many) row many).length = _
    rw [rowBump_len, bump_len]
theorem bump_at {f : List Nat} {t many k : Nat} (h : t < f.length) : (bump f t many).getD k 0 = f.getD k 0 + (if t = k then many else 0) := by
  unfold bump
  by_cases e : t = k
  · subst e
    rw [if_pos rfl]
    simp [List.getD, h]
  · rw [if_neg e]
    simp [List.getD, List.getElem?_set_ne e]
theorem rowBump_at : ∀ {row f : List Nat} {many k : Nat}, (∀ t ∈ row, t < f.length) → (rowBump f row many).getD k 0 = f.getD k 0 + row.count k * many
  | [], f, many, k, _ => by
    show f.getD k 0 = f.getD k 0 + 0 * many
    omega
  | t :: row, f, many, k, h => by
    show (rowBump (bump f t many) row many).getD k 0 = _
    rw [rowBump_at (fun u hu => by rw [bump_len]; exact h u (List.mem_cons_of_mem _ hu)), bump_at (h t List.mem_cons_self), List.count_cons]
    by_cases e : t = k
    · subst e
      simp only [if_true, beq_self_eq_true]
      rw [Nat.add_mul]
      omega
    · have e' : (t == k) = false := beq_eq_false_iff_ne.mpr e
      rw [if_neg e, e', if_neg (by decide), Nat.add_zero, Nat.add_zero]
/-- what the rows add to number k -/
def wsum (k : Nat) : List (List Nat) → List Nat → Nat
  | row :: rows, c :: cs => row.count k * c + wsum k rows cs
  | _, _ => 0
theorem stepF_len : ∀ {rows : List (List Nat)} {cs f : List Nat}, (stepF f rows cs).length = f.length
  | [], cs, f => by cases cs <;> rfl
  | row :: rows, [], f => rfl
  | row :: rows, c :: cs, f => by
    show (stepF (rowBump f row c) rows cs).length = _
    rw [stepF_len, rowBump_len]
theorem stepF_at {k : Nat} : ∀ {rows : List (List Nat)} {cs f : List Nat}, (∀ row ∈ rows, ∀ t ∈ row, t < f.length) → (stepF f rows cs).getD k 0 = f.getD k 0 + wsum k rows cs
  | [], cs, f, _ => by
    cases cs <;> rfl
  | row :: rows, [], f, _ => rfl
  | row :: rows, c :: cs, f, h => by
    show (stepF (rowBump f row c) rows cs).getD k 0 = f.getD k 0 + (row.count k * c + wsum k rows cs)
    rw [stepF_at (fun r hr t ht => by rw [rowBump_len]; exact h r (List.mem_cons_of_mem _ hr) t ht), rowBump_at (h row List.mem_cons_self)]
    omega
theorem stepC_len {rows : List (List Nat)} {cs : List Nat} : (stepC rows cs).length = rows.length := by rw [stepC, stepF_len, List.length_replicate]
theorem dp_len {rows : List (List Nat)} : ∀ {t : Nat}, (dp rows t).length = rows.length
  | 0 => by simp [dp]
  | t + 1 => by rw [dp, stepC_len]
/-- summed over the places, or over what stands there -/
theorem sum_set {h : Nat → Nat} : ∀ (I : List Nat) (N s : Nat), (∀ x ∈ I, s ≤ x ∧ x < s + N) → (I.map h).sum = ((List.range' s N).map fun j => I.count j * h j).sum
  | [], N, s, _ => by
    rw [List.map_nil, List.sum_nil]
    induction N generalizing s with
    | zero => rfl
    | succ N ih => rw [List.range'_succ, List.map_cons, List.sum_cons, ← ih (s + 1) fun y hy => (by cases hy)]; simp
  | x :: I, N, s, hx => by
    have ih := sum_set (h := h) I N s fun y hy => hx y (List.mem_cons_of_mem _ hy)
    have hb := hx x List.mem_cons_self
    rw [List.map_cons, List.sum_cons, ih]
    suffices g : ∀ (N s : Nat), ((List.range' s N).map fun j => (x :: I).count j * h j).sum = (if s ≤ x ∧ x < s + N then h x else 0) + ((List.range' s N).map fun j => I.count j * h j).sum by
      rw [g, if_pos hb]
    intro N
    induction N with
    | zero =>
      intro s
      rw [if_neg (by omega)]
      rfl
    | succ N ih2 =>
      intro s
      rw [List.range'_succ, List.map_cons, List.sum_cons, List.map_cons, List.sum_cons, ih2, List.count_cons]
      by_cases e : x = s
      · subst e
        rw [beq_self_eq_true, if_pos rfl, if_neg (show ¬ (x + 1 ≤ x ∧ x < x + 1 + N) by omega), if_pos (show x ≤ x ∧ x < x + (N + 1) by omega), Nat.add_mul]
        omega
      · have e' : (x == s) = false := beq_eq_false_iff_ne.mpr e
        rw [e', if_neg (by decide), Nat.add_zero]
        by_cases b : s + 1 ≤ x ∧ x < s + 1 + N
        · rw [if_pos b, if_pos (show s ≤ x ∧ x < s + (N + 1) by omega)]
          omega
        · rw [if_neg b, if_neg (show ¬ (s ≤ x ∧ x < s + (N + 1)) by omega)]
          omega
theorem wsum_eq {k : Nat} : ∀ (rows : List (List Nat)) (g : Nat → Nat) (s : Nat), wsum k rows ((List.range' s rows.length).map g) = ((List.range' s rows.length).map fun j => g j * (rows.getD (j - s) []).count k).sum
  | [], g, s => rfl
  | row :: rows, g, s => by
    rw [List.length_cons, List.range'_succ, List.map_cons, List.map_cons, List.sum_cons]
    show row.count k * g s + wsum k rows _ = _
    rw [wsum_eq rows g (s + 1)]
    have e : (List.range' (s + 1) rows.length).map (fun j => g j * (rows.getD (j - (s + 1)) []).count k) = (List.range' (s + 1) rows.length).map fun j => g j * ((row :: rows).getD (j - s) []).count k := by
      refine List.map_congr_left fun j hj => ?_
      have := List.mem_range'_1.mp hj
      obtain ⟨d, rfl⟩ : ∃ d, j = s + 1 + d := ⟨j - (s + 1), by omega⟩
      rw [show s + 1 + d - (s + 1) = d by omega, show s + 1 + d - s = d + 1 by omega]
      rfl
    rw [e, Nat.sub_self, Nat.mul_comm]
    rfl
theorem ext_getD {f g : List Nat} (l : f.length = g.length) (h : ∀ k, k < f.length → f.getD k 0 = g.getD k 0) : f = g := by
  refine List.ext_getElem l fun k h1 h2 => ?_
  have := h k h1
  rwa [getD_at h1, getD_at h2] at this
/-- a letter more -/
theorem step_cvec {rows : List (List Nat)} {I : List Nat} (hr : ∀ row ∈ rows, ∀ t ∈ row, t < rows.length) (hI : ∀ x ∈ I, x < rows.length) : stepC rows (cvec rows.length I) = cvec rows.length (I.flatMap fun j => rows.getD j []) := by
  refine ext_getD (by rw [stepC_len, cvec_len]) fun k hk => ?_
  rw [stepC_len] at hk
  rw [stepC, stepF_at (fun r hr' t ht => by rw [List.length_replicate]; exact hr r hr' t ht), getD_of (cvec_get hk), cvec, List.range_eq_range', wsum_eq, List.count_flatMap]
  have z : (List.replicate rows.length 0).getD k 0 = 0 := by simp [List.getD, hk]
  rw [z, Nat.zero_add]
  have s := sum_set (h := fun j => (rows.getD j []).count k) I rows.length 0 fun x hx => ⟨Nat.zero_le _, by have := hI x hx; omega⟩
  simp only [Nat.sub_zero]
  exact s.symm
/-- the numbers of the products of all words of a length -/
def idx (rows : List (List Nat)) : Nat → List Nat
  | 0 => [0]
  | t + 1 => (idx rows t).flatMap fun j => rows.getD j []
theorem idx_lt {rows : List (List Nat)} (h0 : 0 < rows.length) (hr : ∀ row ∈ rows, ∀ t ∈ row, t < rows.length) : ∀ (t : Nat), ∀ x ∈ idx rows t, x < rows.length
  | 0, x, hx => by
    rw [idx, List.mem_singleton] at hx
    omega
  | t + 1, x, hx => by
    rw [idx] at hx
    obtain ⟨j, _, hj⟩ := List.mem_flatMap.mp hx
    cases e : rows[j]? with
    | none => rw [List.getD, e] at hj; cases hj
    | some row =>
      rw [getD_of e] at hj
      exact hr row (List.mem_of_getElem? e) x hj
theorem dp_idx {rows : List (List Nat)} (h0 : 0 < rows.length) (hr : ∀ row ∈ rows, ∀ t ∈ row, t < rows.length) : ∀ (t : Nat), dp rows t = cvec rows.length (idx rows t)
  | 0 => by
    refine ext_getD (by rw [dp_len, cvec_len]) fun k hk => ?_
    rw [dp_len] at hk
    rw [getD_of (cvec_get hk), dp, idx]
    cases k with
    | zero => simp [List.getD, h0]
    | succ k => simp [List.getD, hk, List.count_cons]
  | t + 1 => by rw [dp, dp_idx h0 hr t, step_cvec hr (idx_lt h0 hr t), idx]
theorem ones : ∀ (I : List Nat), (I.map fun _ => 1).sum = I.length
  | [] => rfl
  | x :: I => by rw [List.map_cons, List.sum_cons, ones I, List.length_cons, Nat.add_comm]
theorem cvec_sum {N : Nat} {I : List Nat} (h : ∀ x ∈ I, x < N) : (cvec N I).sum = I.length := by
  have s : (I.map fun _ => 1).sum = ((List.range' 0 N).map fun j => I.count j * 1).sum := sum_set I N 0 fun x hx => ⟨Nat.zero_le _, by have := h x hx; omega⟩
  rw [cvec, List.range_eq_range']
  rw [show ((List.range' 0 N).map fun j => I.count j * 1) = (List.range' 0 N).map fun k => I.count k from List.map_congr_left fun j _ => Nat.mul_one _] at s
  rw [← s]
  exact ones I
end Mon

set_option Elab.async false
set_option linter.all false
/-! How long the words are: pure. -/
namespace Mon
theorem pw_const {v : Nat} : ∀ {l : List Nat}, (∀ a ∈ l, a = v) → l.Pairwise (· ≤ ·)
  | [], _ => .nil
  | x :: l, h => .cons (fun a ha => by rw [h x List.mem_cons_self, h a (List.mem_cons_of_mem _ ha)]; exact Nat.le_refl _) (pw_const fun a ha => h a (List.mem_cons_of_mem _ ha))
theorem madeTab_sorted : ∀ {rows : List (List Nat)} {i : Nat} {m m' : List (Nat × Nat)}, madeTab i rows m = some m' → ∃ e, m' = m ++ e ∧ (e.map (·.1)).Pairwise (· ≤ ·) ∧ ∀ p ∈ e, i ≤ p.1
  | [], i, m, m', h => by
    simp only [madeTab, Option.some.injEq] at h
    exact ⟨[], by simp [h], by simp, fun p hp => by cases hp⟩
  | row :: rows, i, m, m', h => by
    simp only [madeTab] at h
    split at h
    · cases h
    · cases hr : madeRow i 0 row m with
      | none => rw [hr] at h; cases h
      | some m1 =>
        rw [hr, Option.bind_some] at h
        obtain ⟨e1, he1, q1⟩ := madeRow_ok hr
        obtain ⟨e2, he2, p2, g2⟩ := madeTab_sorted h
        have all1 : ∀ p ∈ e1, p.1 = i := fun p hp => by
          obtain ⟨k, hk⟩ := List.getElem?_of_mem hp
          exact (q1 k p hk).1
        refine ⟨e1 ++ e2, by rw [he2, he1, List.append_assoc], ?_, fun p hp => ?_⟩
        · rw [List.map_append, List.pairwise_append]
          refine ⟨?_, p2, fun a ha b hb => ?_⟩
          · exact pw_const (v := i) fun a ha => by
              obtain ⟨p, hp, rfl⟩ := List.mem_map.mp ha
              exact all1 p hp
          · obtain ⟨pa, hpa, rfl⟩ := List.mem_map.mp ha
            obtain ⟨pb, hpb, rfl⟩ := List.mem_map.mp hb
            have := g2 pb hpb
            rw [all1 pa hpa]
            omega
        · rcases List.mem_append.mp hp with z | z
          · rw [all1 p z]
            exact Nat.le_refl _
          · have := g2 p z
            omega
theorem made_le {rows : List (List Nat)} {m : List (Nat × Nat)} (h : madeTab 0 rows [] = some m) {i j : Nat} {p q : Nat × Nat} (hp : m[i]? = some p) (hq : m[j]? = some q) (ij : i ≤ j) : p.1 ≤ q.1 := by
  obtain ⟨e, he, pw, _⟩ := madeTab_sorted h
  rw [List.nil_append] at he
  subst he
  rcases Nat.eq_or_lt_of_le ij with z | z
  · subst z
    rw [hp] at hq
    cases hq
    exact Nat.le_refl _
  · obtain ⟨a1, a2⟩ := List.getElem?_eq_some_iff.mp hp
    obtain ⟨b1, b2⟩ := List.getElem?_eq_some_iff.mp hq
    rw [List.pairwise_map] at pw
    have := List.pairwise_iff_getElem.mp pw i j a1 b1 z
    rw [a2, b2] at this
    exact this
/-- the lengths of the words -/
def lens (m : List (Nat × Nat)) : List Nat := (wordTab m).map List.length
theorem lens_len {m : List (Nat × Nat)} : (lens m).length = m.length + 1 := by rw [lens, List.length_map, word_len]
theorem lens_snoc {m : List (Nat × Nat)} {p : Nat × Nat} (h : p.1 < m.length + 1) : lens (m ++ [p]) = lens m ++ [(lens m).getD p.1 0 + 1] := by
  unfold lens
  rw [word_snoc, wordStep, List.map_append, List.map_cons, List.map_nil, List.length_append]
  have e : (wordTab m)[p.1]? = some ((wordTab m)[p.1]'(by rw [word_len]; exact h)) := List.getElem?_eq_getElem (by rw [word_len]; exact h)
  rw [getD_of e]
  have e2 : ((wordTab m).map List.length)[p.1]? = some ((wordTab m)[p.1]'(by rw [word_len]; exact h)).length := by rw [List.getElem?_map, e]; rfl
  rw [getD_of e2]
  rfl
section
variable {m : List (Nat × Nat)}
theorem take_app_len {α : Type} {l : List α} {k : Nat} {x : α} (h : l[k]? = some x) : l.take (k + 1) = l.take k ++ [x] := (take_cons h).2.1
theorem lens_take (hm : ∀ (k : Nat) p, m[k]? = some p → p.1 < k + 1) : ∀ (k : Nat), k ≤ m.length → lens (m.take k) = (lens m).take (k + 1) := by
  suffices g : ∀ (d k : Nat), k + d = m.length → lens (m.take k) = (lens m).take (k + 1) from fun k hk => g (m.length - k) k (by omega)
  intro d
  induction d with
  | zero =>
    intro k e
    rw [List.take_of_length_le (by omega), List.take_of_length_le (by rw [lens_len]; omega)]
  | succ d ih =>
    intro k e
    have hk : k < m.length := by omega
    have hp : m[k]? = some m[k] := List.getElem?_eq_getElem hk
    have q := ih (k + 1) (by omega)
    have lk : (m.take k).length = k := by rw [List.length_take]; omega
    rw [take_app_len hp, lens_snoc (by rw [lk]; exact hm k _ hp)] at q
    have l1 : (lens (m.take k)).length = k + 1 := by rw [lens_len, lk]
    have q2 := congrArg (List.take (k + 1)) q
    rw [List.take_left' l1, List.take_take, Nat.min_eq_left (by omega)] at q2
    exact q2
theorem lens_at (hm : ∀ (k : Nat) p, m[k]? = some p → p.1 < k + 1) {k : Nat} {p : Nat × Nat} (hp : m[k]? = some p) : (lens m).getD (k + 1) 0 = (lens m).getD p.1 0 + 1 := by
  have hk := (List.getElem?_eq_some_iff.mp hp).1
  have lk : (m.take k).length = k := by rw [List.length_take]; omega
  have pk := hm k p hp
  have q := lens_take hm (k + 1) hk
  rw [take_app_len hp, lens_snoc (by rw [lk]; exact pk)] at q
  have l1 : (lens (m.take k)).length = k + 1 := by rw [lens_len, lk]
  have a : ((lens m).take (k + 2))[k + 1]? = some ((lens (m.take k)).getD p.1 0 + 1) := by
    rw [← q, List.getElem?_append_right (by omega), l1, Nat.sub_self]
    rfl
  rw [List.getElem?_take_of_lt (by omega)] at a
  rw [getD_of a, lens_take hm k (by omega)]
  have b : ((lens m).take (k + 1))[p.1]? = (lens m)[p.1]? := List.getElem?_take_of_lt pk
  rw [List.getD, List.getD, b]
theorem lens_0 : (lens m).getD 0 0 = 0 := by
  have e : (lens m)[0]? = some 0 := by
    have h : (lens m).take 1 = lens (m.take 0) ∨ True := .inr trivial
    unfold lens wordTab
    suffices g : ∀ (m : List (Nat × Nat)) (L : List (List Nat)), L[0]? = some [] → ((m.foldl wordStep L))[0]? = some [] by
      rw [List.getElem?_map, g m [[]] rfl]
      rfl
    intro m
    induction m with
    | nil => intro L h; exact h
    | cons p r ih =>
      intro L h
      rw [List.foldl_cons]
      refine ih _ ?_
      unfold wordStep
      exact get_app _ h
  rw [getD_of e]
theorem lens_mono {rows : List (List Nat)} (h : madeTab 0 rows [] = some m) : ∀ (N i j : Nat), i ≤ j → j ≤ N → N < m.length + 1 → (lens m).getD i 0 ≤ (lens m).getD j 0 := by
  have hm : ∀ (k : Nat) p, m[k]? = some p → p.1 < k + 1 := fun k p hp => (madeTab_lt h hp).1
  intro N
  induction N with
  | zero =>
    intro i j ij jN _
    rw [show i = j by omega]
    exact Nat.le_refl _
  | succ N ih =>
    intro i j ij jN hN
    by_cases z : j ≤ N
    · exact ih i j ij z (by omega)
    · by_cases z2 : i = j
      · rw [z2]
        exact Nat.le_refl _
      · have ej : j = N + 1 := by omega
        subst ej
        have hq : m[N]? = some m[N] := List.getElem?_eq_getElem (by omega)
        have s1 := ih i N (by omega) (Nat.le_refl _) (by omega)
        refine Nat.le_trans s1 ?_
        rw [lens_at hm hq]
        cases N with
        | zero => rw [lens_0]; exact Nat.zero_le _
        | succ N =>
          have hp : m[N]? = some m[N] := List.getElem?_eq_getElem (by omega)
          rw [lens_at hm hp]
          have := made_le h hp hq (by omega)
          have b := hm _ _ hq
          exact Nat.succ_le_succ (ih _ _ this (by omega) (by omega))
theorem lens_all {rows : List (List Nat)} (h : madeTab 0 rows [] = some m) : ∀ (N k l : Nat), k ≤ N → k < m.length + 1 → l ≤ (lens m).getD k 0 → ∃ j, j < m.length + 1 ∧ (lens m).getD j 0 = l := by
  have hm : ∀ (k : Nat) p, m[k]? = some p → p.1 < k + 1 := fun k p hp => (madeTab_lt h hp).1
  intro N
  induction N with
  | zero =>
    intro k l hk hk2 hl
    have : k = 0 := by omega
    subst this
    rw [lens_0] at hl
    exact ⟨0, hk2, by rw [lens_0]; omega⟩
  | succ N ih =>
    intro k l hk hk2 hl
    by_cases e : l = (lens m).getD k 0
    · exact ⟨k, hk2, e.symm⟩
    · cases k with
      | zero => exact ih 0 l (Nat.zero_le _) hk2 hl
      | succ k =>
        have hp : m[k]? = some m[k] := List.getElem?_eq_getElem (by omega)
        have b := hm _ _ hp
        rw [lens_at hm hp] at hl e
        exact ih m[k].1 l (by omega) (by omega) (by omega)
/-- the greatest length -/
def top (m : List (Nat × Nat)) : Nat := (lens m).getD m.length 0
theorem lens_le {rows : List (List Nat)} (h : madeTab 0 rows [] = some m) : ∀ x ∈ lens m, x < top m + 1 := fun x hx => by
  obtain ⟨i, hi⟩ := List.getElem?_of_mem hx
  have il := (List.getElem?_eq_some_iff.mp hi).1
  rw [lens_len] at il
  have := lens_mono h m.length i m.length (by omega) (Nat.le_refl _) (by omega)
  rw [getD_of hi] at this
  exact Nat.lt_succ_of_le this
theorem top_short {m : List (Nat × Nat)} (hs : ∀ w ∈ wordTab m, w.length ≤ m.length) : top m ≤ m.length := by
  have e : (lens m)[m.length]? = some ((lens m)[m.length]'(by rw [lens_len]; omega)) := List.getElem?_eq_getElem _
  rw [top, getD_of e]
  have hm := List.mem_of_getElem? e
  generalize (lens m)[m.length]'(by rw [lens_len]; omega) = z at hm
  unfold lens at hm
  obtain ⟨w, hw, rfl⟩ := List.mem_map.mp hm
  exact hs w hw
/-- how many words have each length -/
def grow (m : List (Nat × Nat)) : List Nat := cvec (top m + 1) (lens m)
theorem grow_bump {rows : List (List Nat)} (h : madeTab 0 rows [] = some m) : rowBump (List.replicate (top m + 1) 0) (lens m) 1 = grow m := by
  refine ext_getD (by rw [rowBump_len, List.length_replicate, grow, cvec_len]) fun k hk => ?_
  rw [rowBump_len, List.length_replicate] at hk
  rw [rowBump_at (fun t ht => by rw [List.length_replicate]; exact lens_le h t ht), grow, getD_of (cvec_get hk)]
  simp [List.getD, hk]
theorem grow_pos {rows : List (List Nat)} (h : madeTab 0 rows [] = some m) : 0 ∉ grow m := fun hz => by
  unfold grow cvec at hz
  obtain ⟨l, hl, e⟩ := List.mem_map.mp hz
  obtain ⟨j, hj, e2⟩ := lens_all h m.length m.length l (Nat.le_refl _) (by omega) (by have := List.mem_range.mp hl; unfold top at this; omega)
  have hj' : (lens m)[j]? = some l := by
    have : j < (lens m).length := by rw [lens_len]; exact hj
    rw [List.getElem?_eq_getElem this, ← e2, getD_at this]
  have := List.count_pos_iff.mpr (List.mem_of_getElem? hj')
  omega
theorem grow_le : ∀ x ∈ grow m, x ≤ m.length + 1 := fun x hx => by
  unfold grow cvec at hx
  obtain ⟨l, _, rfl⟩ := List.mem_map.mp hx
  rw [← lens_len]
  exact List.count_le_length
theorem grow_len : (grow m).length = top m + 1 := cvec_len
end
end Mon

set_option Elab.async false
set_option linter.all false
/-! Words letter by letter, the table walked: pure. -/
namespace Mon
section
variable {m : List (Nat × Nat)}
theorem word_take (hm : ∀ (k : Nat) p, m[k]? = some p → p.1 < k + 1) : ∀ (k : Nat), k ≤ m.length → wordTab (m.take k) = (wordTab m).take (k + 1) := by
  suffices g : ∀ (d k : Nat), k + d = m.length → wordTab (m.take k) = (wordTab m).take (k + 1) from fun k hk => g (m.length - k) k (by omega)
  intro d
  induction d with
  | zero =>
    intro k e
    rw [List.take_of_length_le (by omega), List.take_of_length_le (by rw [word_len]; omega)]
  | succ d ih =>
    intro k e
    have hk : k < m.length := by omega
    have hp : m[k]? = some m[k] := List.getElem?_eq_getElem hk
    have q := ih (k + 1) (by omega)
    have lk : (m.take k).length = k := by rw [List.length_take]; omega
    rw [take_app_len hp, word_snoc, wordStep] at q
    have l1 : (wordTab (m.take k)).length = k + 1 := by rw [word_len, lk]
    have q2 := congrArg (List.take (k + 1)) q
    rw [List.take_left' l1, List.take_take, Nat.min_eq_left (by omega)] at q2
    exact q2
/-- the word of a number, by that of the number before it -/
theorem word_at (hm : ∀ (k : Nat) p, m[k]? = some p → p.1 < k + 1) {k : Nat} {p : Nat × Nat} (hp : m[k]? = some p) : (wordTab m).getD (k + 1) [] = (wordTab m).getD p.1 [] ++ [p.2] := by
  have hk := (List.getElem?_eq_some_iff.mp hp).1
  have lk : (m.take k).length = k := by rw [List.length_take]; omega
  have pk := hm k p hp
  have q := word_take hm (k + 1) hk
  rw [take_app_len hp, word_snoc, wordStep] at q
  have l1 : (wordTab (m.take k)).length = k + 1 := by rw [word_len, lk]
  have a : ((wordTab m).take (k + 2))[k + 1]? = some ((wordTab (m.take k)).getD p.1 [] ++ [p.2]) := by
    rw [← q, List.getElem?_append_right (by omega), l1, Nat.sub_self]
    rfl
  rw [List.getElem?_take_of_lt (by omega)] at a
  rw [getD_of a, word_take hm k (by omega)]
  have b : ((wordTab m).take (k + 1))[p.1]? = (wordTab m)[p.1]? := List.getElem?_take_of_lt pk
  rw [List.getD, List.getD, b]
theorem word_0 : (wordTab m).getD 0 [] = [] := by
  have e : (wordTab m)[0]? = some [] := by
    unfold wordTab
    suffices g : ∀ (m : List (Nat × Nat)) (L : List (List Nat)), L[0]? = some [] → ((m.foldl wordStep L))[0]? = some [] from g m [[]] rfl
    intro m
    induction m with
    | nil => intro L h; exact h
    | cons p r ih =>
      intro L h
      rw [List.foldl_cons]
      refine ih _ ?_
      unfold wordStep
      exact get_app _ h
  rw [getD_of e]
end
/-- where letters lead -/
def walk (rows : List (List Nat)) (s : Nat) (w : List Nat) : Nat := w.foldl (fun i c => (rows.getD i []).getD c 0) s
def compW (gens : List (List Nat)) (x : List Nat) (w : List Nat) : List Nat := w.foldl (fun x c => comp x (gens.getD c [])) x
theorem walk_app {rows : List (List Nat)} {s : Nat} {u v : List Nat} : walk rows s (u ++ v) = walk rows (walk rows s u) v := by
  unfold walk
  rw [List.foldl_append]
/-- the table acts as the maps do -/
theorem Tab.walk {n : Nat} {gens found rows : List (List Nat)} (T : Tab n gens found rows) : ∀ {w : List Nat} {s : Nat} {x : List Nat}, found[s]? = some x → (∀ c ∈ w, c < gens.length) → found[Mon.walk rows s w]? = some (compW gens x w)
  | [], s, x, h, _ => h
  | c :: w, s, x, h, hw => by
    have hg : gens[c]? = some (gens[c]'(hw c List.mem_cons_self)) := List.getElem?_eq_getElem _
    have e := T.get h hg
    have r := T.walk (w := w) e fun d hd => hw d (List.mem_cons_of_mem _ hd)
    show found[Mon.walk rows ((rows.getD s []).getD c 0) w]? = some (compW gens (comp x (gens.getD c [])) w)
    rw [getD_of hg]
    exact r
end Mon

set_option Elab.async false
set_option linter.all false
set_option maxRecDepth 100000
set_option maxHeartbeats 4000000
/-! Right tables whose products go together are those of monoids; the same tables turned about: pure. -/
namespace Ass
open PySem PySem.Spec PyProof.Rows L2 Lf
def Form (rows : List (List Nat)) (w : Nat) : Prop := 1 ≤ rows.length ∧ rows.length ≤ 2000 ∧ 1 ≤ w ∧ w ≤ 6 ∧ ∀ row ∈ rows, row.length = w ∧ ∀ t ∈ row, t < rows.length
def gAt (rows L : List (List Nat)) (i c : Nat) : Prop := ∀ row t li lt, rows[i]? = some row → row[c]? = some t → L[i]? = some li → L[t]? = some lt → lt = li.map fun x => (rows.getD x []).getD c 0
def gRow (rows L : List (List Nat)) (i : Nat) : Prop := ∀ c, gAt rows L i c
theorem len_grow {rows : List (List Nat)} {m m' : List (Nat × Nat)} {i : Nat} (h : Mon.madeTab 0 rows [] = some m) (h' : Mon.madeTab 0 (rows.take i) [] = some m') : m'.length ≤ m.length := by
  have e := List.take_append_drop i rows
  rw [← e, Mon.madeTab_app, h', Option.bind_some] at h
  obtain ⟨x, hx, _⟩ := Mon.madeTab_ok h
  rw [hx, List.length_append]
  omega
structure Acc0 (rows : List (List Nat)) (wd : Nat) (m : List (Nat × Nat)) : Prop where
  form : Form rows wd
  made : Mon.madeTab 0 rows [] = some m
  len : m.length + 1 = rows.length
theorem Acc0.left {rows : List (List Nat)} {wd : Nat} {m : List (Nat × Nat)} (A : Acc0 rows wd m) (i : Nat) : ∀ l ∈ Mon.leftTab rows (m.take i), l.length = wd ∧ ∀ x ∈ l, x < rows.length := by
  obtain ⟨f1, f2, w1, w6, fr⟩ := A.form
  have r0 : (rows.getD 0 []).length = wd ∧ ∀ x ∈ rows.getD 0 [], x < rows.length := by
    obtain ⟨row, h⟩ := lt_get (show 0 < rows.length by omega)
    rw [Mon.getD_of h]
    exact fr row (List.mem_of_getElem? h)
  have mk : ∀ p ∈ m, p.2 < wd := fun p hp => by
    obtain ⟨k, hk⟩ := List.getElem?_of_mem hp
    obtain ⟨_, row, h1, h2⟩ := Mon.madeTab_lt A.made hk
    have := get_lt h2
    rw [(fr row (List.mem_of_getElem? h1)).1] at this
    exact this
  induction i with
  | zero =>
    intro l hl
    rw [List.take_zero] at hl
    have : Mon.leftTab rows [] = [rows.getD 0 []] := rfl
    rw [this, List.mem_singleton] at hl
    rw [hl]
    exact r0
  | succ i ih =>
    by_cases hi : i < m.length
    case neg =>
      rw [List.take_of_length_le (by omega), ← List.take_of_length_le (show m.length ≤ i by omega)]
      exact ih
    obtain ⟨p, hp⟩ := lt_get hi
    rw [take_snoc hp, Mon.left_snoc]
    intro l hl
    rcases List.mem_append.mp hl with h | h
    · exact ih l h
    · rw [List.mem_singleton] at h
      rw [h]
      have lt := (Mon.madeTab_lt A.made hp).1
      obtain ⟨l0, h0⟩ := lt_get (show p.1 < (Mon.leftTab rows (m.take i)).length by rw [Mon.left_len, List.length_take]; omega)
      rw [Mon.getD_of h0]
      obtain ⟨a, b⟩ := ih l0 (List.mem_of_getElem? h0)
      refine ⟨by rw [List.length_map]; exact a, fun x hx => ?_⟩
      obtain ⟨y, hy, rfl⟩ := List.mem_map.mp hx
      obtain ⟨row, hrow⟩ := lt_get (b y hy)
      have fo := fr row (List.mem_of_getElem? hrow)
      obtain ⟨e, he⟩ := lt_get (show p.2 < row.length by rw [fo.1]; exact mk p (List.mem_of_getElem? hp))
      rw [Mon.getD_of hrow, Mon.getD_of he]
      exact fo.2 e (List.mem_of_getElem? he)
theorem made_len {rows : List (List Nat)} {wd : Nat} {m : List (Nat × Nat)} (F : Form rows wd) (h : Mon.madeTab 0 rows [] = some m) : m.length + 1 = rows.length := by
  obtain ⟨f1, _, _, _, fr⟩ := F
  obtain ⟨row, hr⟩ := lt_get (show rows.length - 1 < rows.length by omega)
  obtain ⟨m', a1, a2, m2, a3, a4⟩ := Mon.madeTab_at h hr
  have up : m'.length ≤ m.length := len_grow h a1
  have lo : m.length < rows.length := by
    by_cases z : m.length = 0
    · omega
    · obtain ⟨p, hp⟩ := lt_get (show m.length - 1 < m.length by omega)
      obtain ⟨_, r2, b1, b2⟩ := Mon.madeTab_lt h hp
      have := (fr r2 (List.mem_of_getElem? b1)).2 _ (List.mem_of_getElem? b2)
      omega
  omega
theorem left_walk {rows : List (List Nat)} {wd : Nat} {m : List (Nat × Nat)} (F : Form rows wd) (h : Mon.madeTab 0 rows [] = some m) : ∀ {i : Nat}, i ≤ m.length → ∀ (k : Nat) l w, (Mon.leftTab rows (m.take i))[k]? = some l → (Mon.wordTab (m.take i))[k]? = some w → l = (rows.getD 0 []).map fun s => Mon.walk rows s w
  | 0, _, k, l, w, h1, h2 => by
    rw [List.take_zero] at h1 h2
    have e1 : Mon.leftTab rows [] = [rows.getD 0 []] := rfl
    have e2 : Mon.wordTab [] = [[]] := rfl
    rw [e1] at h1
    rw [e2] at h2
    cases k with
    | zero =>
      cases h1
      cases h2
      exact (List.map_id _).symm
    | succ k => simp at h1
  | i + 1, hi, k, l, w, h1, h2 => by
    obtain ⟨p, hp⟩ := lt_get (show i < m.length by omega)
    have ih := left_walk F h (i := i) (by omega)
    have lt := (Mon.madeTab_lt h hp).1
    have ll : (Mon.leftTab rows (m.take i)).length = i + 1 := by rw [Mon.left_len, List.length_take]; omega
    have lw : (Mon.wordTab (m.take i)).length = i + 1 := by rw [Mon.word_len, List.length_take]; omega
    have ew : Mon.wordTab (m.take (i + 1)) = Mon.wordStep (Mon.wordTab (m.take i)) p := by
      unfold Mon.wordTab
      rw [take_snoc hp, List.foldl_append]
      rfl
    rw [take_snoc hp, Mon.left_snoc] at h1
    rw [ew] at h2
    unfold Mon.leftStep at h1
    unfold Mon.wordStep at h2
    by_cases hk : k < i + 1
    · rw [List.getElem?_append_left (by omega)] at h1 h2
      exact ih k l w h1 h2
    · have := get_lt h1
      rw [List.length_append, List.length_singleton, ll] at this
      have e : k = i + 1 := by omega
      subst e
      rw [List.getElem?_append_right (by omega), ll, Nat.sub_self] at h1
      rw [List.getElem?_append_right (by omega), lw, Nat.sub_self] at h2
      cases h1
      cases h2
      obtain ⟨l0, hl0⟩ := lt_get (show p.1 < (Mon.leftTab rows (m.take i)).length by omega)
      obtain ⟨w0, hw0⟩ := lt_get (show p.1 < (Mon.wordTab (m.take i)).length by omega)
      rw [Mon.getD_of hl0, Mon.getD_of hw0, ih p.1 l0 w0 hl0 hw0, List.map_map]
      refine List.map_congr_left fun s _ => ?_
      show (rows.getD (Mon.walk rows s w0) []).getD p.2 0 = Mon.walk rows s (w0 ++ [p.2])
      unfold Mon.walk
      rw [List.foldl_append]
      rfl
theorem walk_lt {rows : List (List Nat)} {wd : Nat} (F : Form rows wd) : ∀ {w : List Nat} {s : Nat}, s < rows.length → (∀ c ∈ w, c < wd) → Mon.walk rows s w < rows.length
  | [], s, h, _ => h
  | c :: r, s, h, hc => by
    obtain ⟨row, hr⟩ := lt_get h
    have fr := F.2.2.2.2 row (List.mem_of_getElem? hr)
    obtain ⟨t, ht⟩ := lt_get (show c < row.length by rw [fr.1]; exact hc c List.mem_cons_self)
    show Mon.walk rows ((rows.getD s []).getD c 0) r < _
    rw [Mon.getD_of hr, Mon.getD_of ht]
    exact walk_lt F (fr.2 t (List.mem_of_getElem? ht)) fun x hx => hc x (List.mem_cons_of_mem _ hx)
def one (rows L : List (List Nat)) (i a c : Nat) : Prop := (L.getD ((rows.getD i []).getD c 0) []).getD a 0 = (rows.getD ((L.getD i []).getD a 0) []).getD c 0
theorem row_of {rows : List (List Nat)} {wd i : Nat} {m : List (Nat × Nat)} (F : Form rows wd) (hm : Mon.madeTab 0 rows [] = some m) (hi : i < rows.length) : gRow rows (Mon.leftTab rows m) i ↔ ∀ a c, a < wd → c < wd → one rows (Mon.leftTab rows m) i a c := by
  have A : Acc0 rows wd m := ⟨F, hm, made_len F hm⟩
  have lL : (Mon.leftTab rows m).length = rows.length := by rw [Mon.left_len, A.len]
  have left' : ∀ (k : Nat) l, (Mon.leftTab rows m)[k]? = some l → l.length = wd ∧ ∀ x ∈ l, x < rows.length := fun k l h => A.left m.length l (by rw [List.take_length]; exact List.mem_of_getElem? h)
  obtain ⟨row, hrow⟩ := lt_get hi
  have fr := F.2.2.2.2 row (List.mem_of_getElem? hrow)
  obtain ⟨li, hli⟩ := lt_get (show i < (Mon.leftTab rows m).length by omega)
  have ll := left' i li hli
  constructor
  · intro g a c ha hc
    obtain ⟨t, ht⟩ := lt_get (show c < row.length by omega)
    obtain ⟨lt, hlt⟩ := lt_get (show t < (Mon.leftTab rows m).length by rw [lL]; exact fr.2 t (List.mem_of_getElem? ht))
    have e := g c row t li lt hrow ht hli hlt
    obtain ⟨x, hx⟩ := lt_get (show a < li.length by omega)
    unfold one
    rw [Mon.getD_of hrow, Mon.getD_of ht, Mon.getD_of hlt, Mon.getD_of hli, Mon.getD_of hx, e]
    have : (li.map fun x => (rows.getD x []).getD c 0)[a]? = some ((rows.getD x []).getD c 0) := by rw [List.getElem?_map, hx]; rfl
    rw [Mon.getD_of this]
  · intro h c row' t li' lt h1 h2 h3 h4
    rw [hrow] at h1
    cases h1
    rw [hli] at h3
    cases h3
    have tl := left' t lt h4
    refine List.ext_getElem? fun a => ?_
    by_cases ha : a < wd
    · obtain ⟨x, hx⟩ := lt_get (show a < li.length by omega)
      obtain ⟨y, hy⟩ := lt_get (show a < lt.length by omega)
      have e := h a c ha (by have := get_lt h2; omega)
      unfold one at e
      rw [Mon.getD_of hrow, Mon.getD_of h2, Mon.getD_of h4, Mon.getD_of hli, Mon.getD_of hx, Mon.getD_of hy] at e
      rw [hy, List.getElem?_map, hx, e]
      rfl
    · rw [List.getElem?_eq_none (by omega), List.getElem?_eq_none (by rw [List.length_map]; omega)]
section
variable {rows : List (List Nat)} {wd : Nat} {m : List (Nat × Nat)}
def wd_ (m : List (Nat × Nat)) (k : Nat) : List Nat := (Mon.wordTab m).getD k []
theorem wrd_ok (F : Form rows wd) (hm : Mon.madeTab 0 rows [] = some m) : ∀ k, k < rows.length → Mon.walk rows 0 (wd_ m k) = k ∧ ∀ c ∈ wd_ m k, c < wd := by
  intro k
  induction k using Nat.strongRecOn with
  | _ k ih =>
    intro hk
    cases k with
    | zero =>
      have : wd_ m 0 = [] := by
        unfold wd_ Mon.wordTab
        suffices h : ∀ (l : List (Nat × Nat)) (L : List (List Nat)), L.getD 0 [] = [] → L ≠ [] → (l.foldl Mon.wordStep L).getD 0 [] = [] from h m [[]] rfl (by simp)
        intro l
        induction l with
        | nil => intro L h _; exact h
        | cons p r ih2 =>
          intro L h ne
          rw [List.foldl_cons]
          refine ih2 _ ?_ (by unfold Mon.wordStep; simp)
          unfold Mon.wordStep
          cases L with
          | nil => exact absurd rfl ne
          | cons x L => exact h
      rw [this]
      exact ⟨rfl, fun c h => by cases h⟩
    | succ k =>
      have lm := made_len F hm
      obtain ⟨p, hp⟩ := lt_get (show k < m.length by omega)
      obtain ⟨a1, row, a2, a3⟩ := Mon.madeTab_lt hm hp
      have e := Mon.word_at (fun k p h => (Mon.madeTab_lt hm h).1) hp
      obtain ⟨i1, i2⟩ := ih p.1 (by omega) (by omega)
      have fr := F.2.2.2.2 row (List.mem_of_getElem? a2)
      refine ⟨?_, fun c hc => ?_⟩
      · show Mon.walk rows 0 ((Mon.wordTab m).getD (k + 1) []) = k + 1
        rw [e, Mon.walk_app]
        show (rows.getD (Mon.walk rows 0 (wd_ m p.1)) []).getD p.2 0 = k + 1
        rw [i1, Mon.getD_of a2, Mon.getD_of a3]
      · have hc : c ∈ (Mon.wordTab m).getD (k + 1) [] := hc
        rw [e] at hc
        rcases List.mem_append.mp hc with h | h
        · exact i2 c h
        · rw [List.mem_singleton.mp h]
          have := get_lt a3
          omega
/-- letter a in front -/
def lam (rows L : List (List Nat)) (a i : Nat) : Nat := (L.getD i []).getD a 0
theorem lam_eq (F : Form rows wd) (hm : Mon.madeTab 0 rows [] = some m) {a i : Nat} (ha : a < wd) (hi : i < rows.length) : lam rows (Mon.leftTab rows m) a i = Mon.walk rows ((rows.getD 0 []).getD a 0) (wd_ m i) := by
  have lm := made_len F hm
  obtain ⟨l, hl⟩ := lt_get (show i < (Mon.leftTab rows m).length by rw [Mon.left_len]; omega)
  obtain ⟨w, hw⟩ := lt_get (show i < (Mon.wordTab m).length by rw [Mon.word_len]; omega)
  have e := left_walk F hm (Nat.le_refl m.length) i l w (by rw [List.take_length]; exact hl) (by rw [List.take_length]; exact hw)
  obtain ⟨row0, h0⟩ := lt_get (show 0 < rows.length by omega)
  obtain ⟨s, hs⟩ := lt_get (show a < row0.length by rw [(F.2.2.2.2 row0 (List.mem_of_getElem? h0)).1]; exact ha)
  unfold lam wd_
  rw [Mon.getD_of hl, Mon.getD_of hw, e, Mon.getD_of h0, Mon.getD_of hs]
  have : (row0.map fun s => Mon.walk rows s w)[a]? = some (Mon.walk rows s w) := by rw [List.getElem?_map, hs]; rfl
  rw [Mon.getD_of this]
theorem lam_lt (F : Form rows wd) (hm : Mon.madeTab 0 rows [] = some m) {a i : Nat} (ha : a < wd) (hi : i < rows.length) : lam rows (Mon.leftTab rows m) a i < rows.length := by
  rw [lam_eq F hm ha hi]
  obtain ⟨row0, h0⟩ := lt_get (show 0 < rows.length by omega)
  have fr := F.2.2.2.2 row0 (List.mem_of_getElem? h0)
  obtain ⟨s, hs⟩ := lt_get (show a < row0.length by rw [fr.1]; exact ha)
  rw [Mon.getD_of h0, Mon.getD_of hs]
  exact walk_lt F (fr.2 s (List.mem_of_getElem? hs)) (wrd_ok F hm i hi).2
/-- where products go together, letters in front go past words -/
theorem lam_walk (F : Form rows wd) (hm : Mon.madeTab 0 rows [] = some m) (g : ∀ i, gRow rows (Mon.leftTab rows m) i) {a : Nat} (ha : a < wd) : ∀ {w : List Nat} {i : Nat}, i < rows.length → (∀ c ∈ w, c < wd) → lam rows (Mon.leftTab rows m) a (Mon.walk rows i w) = Mon.walk rows (lam rows (Mon.leftTab rows m) a i) w
  | [], _, _, _ => rfl
  | c :: w, i, hi, hw => by
    have hc := hw c List.mem_cons_self
    have o := (row_of F hm hi).mp (g i) a c ha hc
    obtain ⟨row, hr⟩ := lt_get hi
    have fr := F.2.2.2.2 row (List.mem_of_getElem? hr)
    obtain ⟨t, ht⟩ := lt_get (show c < row.length by rw [fr.1]; exact hc)
    have tl : (rows.getD i []).getD c 0 < rows.length := by rw [Mon.getD_of hr, Mon.getD_of ht]; exact fr.2 t (List.mem_of_getElem? ht)
    show lam rows _ a (Mon.walk rows ((rows.getD i []).getD c 0) w) = Mon.walk rows ((rows.getD (lam rows _ a i) []).getD c 0) w
    rw [lam_walk F hm g ha tl fun x hx => hw x (List.mem_cons_of_mem _ hx)]
    congr 1
/-- a word in front of where a word leads -/
theorem walk_pre (F : Form rows wd) (hm : Mon.madeTab 0 rows [] = some m) (g : ∀ i, gRow rows (Mon.leftTab rows m) i) {w : List Nat} (hw : ∀ c ∈ w, c < wd) : ∀ {u : List Nat}, (∀ c ∈ u, c < wd) → Mon.walk rows (Mon.walk rows 0 u) w = u.foldr (lam rows (Mon.leftTab rows m)) (Mon.walk rows 0 w)
  | [], _ => rfl
  | a :: u, hu => by
    have ha := hu a List.mem_cons_self
    have hu' : ∀ c ∈ u, c < wd := fun c h => hu c (List.mem_cons_of_mem _ h)
    have p0 : 0 < rows.length := by have := F.1; omega
    have l0 : lam rows (Mon.leftTab rows m) a 0 = (rows.getD 0 []).getD a 0 := by
      rw [lam_eq F hm ha p0]
      have z := (wrd_ok F hm 0 p0)
      have : wd_ m 0 = [] := by
        unfold wd_ Mon.wordTab
        suffices h : ∀ (l : List (Nat × Nat)) (L : List (List Nat)), L.getD 0 [] = [] → L ≠ [] → (l.foldl Mon.wordStep L).getD 0 [] = [] from h m [[]] rfl (by simp)
        intro l
        induction l with
        | nil => intro L h _; exact h
        | cons p r ih2 =>
          intro L h ne
          rw [List.foldl_cons]
          refine ih2 _ ?_ (by unfold Mon.wordStep; simp)
          unfold Mon.wordStep
          cases L with
          | nil => exact absurd rfl ne
          | cons x L => exact h
      rw [this]
      rfl
    rw [List.foldr_cons, ← walk_pre F hm g hw hu', lam_walk F hm g ha (walk_lt F p0 hu') hw, lam_walk F hm g ha p0 hu', l0]
    rfl
/-- one times other -/
def mt (rows : List (List Nat)) (m : List (Nat × Nat)) (i j : Nat) : Nat := Mon.walk rows i (wd_ m j)
/-- products that go together are those of a monoid -/
theorem assoc_of (F : Form rows wd) (hm : Mon.madeTab 0 rows [] = some m) (g : ∀ i, gRow rows (Mon.leftTab rows m) i) : (∀ x y z, x < rows.length → y < rows.length → z < rows.length → mt rows m (mt rows m x y) z = mt rows m x (mt rows m y z)) ∧
    ∀ i c, i < rows.length → c < wd → (rows.getD i []).getD c 0 = mt rows m i ((rows.getD 0 []).getD c 0) := by
  have p0 : 0 < rows.length := by have := F.1; omega
  have key : ∀ {x : Nat} {u v : List Nat}, x < rows.length → (∀ c ∈ u, c < wd) → (∀ c ∈ v, c < wd) → Mon.walk rows 0 u = Mon.walk rows 0 v → Mon.walk rows x u = Mon.walk rows x v := fun {x u v} hx hu hv e => by
    obtain ⟨e1, l1⟩ := wrd_ok F hm x hx
    rw [← e1, walk_pre F hm g hu l1, walk_pre F hm g hv l1, e]
  refine ⟨fun x y z hx hy hz => ?_, fun i c hi hc => ?_⟩
  · obtain ⟨ey, ly⟩ := wrd_ok F hm y hy
    obtain ⟨ez, lz⟩ := wrd_ok F hm z hz
    have hu : mt rows m y z < rows.length := walk_lt F hy lz
    obtain ⟨eu, lu⟩ := wrd_ok F hm _ hu
    show Mon.walk rows (Mon.walk rows x (wd_ m y)) (wd_ m z) = Mon.walk rows x (wd_ m (mt rows m y z))
    rw [← Mon.walk_app]
    refine key hx (fun c h => ?_) lu ?_
    · rcases List.mem_append.mp h with q | q
      · exact ly c q
      · exact lz c q
    · rw [Mon.walk_app, ey, eu]
      rfl
  · obtain ⟨row0, h0⟩ := lt_get p0
    have fr := F.2.2.2.2 row0 (List.mem_of_getElem? h0)
    obtain ⟨s, hs⟩ := lt_get (show c < row0.length by rw [fr.1]; exact hc)
    have sl := fr.2 s (List.mem_of_getElem? hs)
    rw [Mon.getD_of h0, Mon.getD_of hs]
    obtain ⟨es, ls⟩ := wrd_ok F hm s sl
    show Mon.walk rows i [c] = Mon.walk rows i (wd_ m s)
    refine key hi (fun x h => by rw [List.mem_singleton.mp h]; exact hc) ls ?_
    rw [es]
    show (rows.getD 0 []).getD c 0 = s
    rw [Mon.getD_of h0, Mon.getD_of hs]
theorem of_assoc (F : Form rows wd) (hm : Mon.madeTab 0 rows [] = some m) (as_ : ∀ x y z, x < rows.length → y < rows.length → z < rows.length → mt rows m (mt rows m x y) z = mt rows m x (mt rows m y z)) (ge : ∀ i c, i < rows.length → c < wd → (rows.getD i []).getD c 0 = mt rows m i ((rows.getD 0 []).getD c 0)) : ∀ i, gRow rows (Mon.leftTab rows m) i := by
  intro i
  by_cases hi : i < rows.length
  case neg => intro c row t li lt g1; rw [List.getElem?_eq_none (by omega)] at g1; cases g1
  refine (row_of F hm hi).mpr fun a c ha hc => ?_
  obtain ⟨row0, h0⟩ := lt_get (show 0 < rows.length by omega)
  have fr := F.2.2.2.2 row0 (List.mem_of_getElem? h0)
  have ent : ∀ {j x : Nat}, j < rows.length → x < wd → (rows.getD j []).getD x 0 < rows.length := fun {j x} hj hx => by
    obtain ⟨row, hr⟩ := lt_get hj
    have f2 := F.2.2.2.2 row (List.mem_of_getElem? hr)
    obtain ⟨t, ht⟩ := lt_get (show x < row.length by rw [f2.1]; exact hx)
    rw [Mon.getD_of hr, Mon.getD_of ht]
    exact f2.2 t (List.mem_of_getElem? ht)
  have p0 : 0 < rows.length := by omega
  have e1 : lam rows (Mon.leftTab rows m) a ((rows.getD i []).getD c 0) = mt rows m ((rows.getD 0 []).getD a 0) ((rows.getD i []).getD c 0) := lam_eq F hm ha (ent hi hc)
  have e2 : lam rows (Mon.leftTab rows m) a i = mt rows m ((rows.getD 0 []).getD a 0) i := lam_eq F hm ha hi
  show lam rows _ a ((rows.getD i []).getD c 0) = (rows.getD (lam rows _ a i) []).getD c 0
  have l2 := lam_lt F hm ha hi
  rw [e1, ge i c hi hc, ← as_ _ _ _ (ent p0 ha) hi (ent p0 hc), ← e2, ← ge _ c l2 hc]
end
end Ass

set_option Elab.async false
set_option linter.all false
set_option maxRecDepth 100000
set_option maxHeartbeats 2000000
/-! Powers of a map, products of elements by their words: pure. -/
namespace Mon
theorem lt_get' {α : Type} {l : List α} {i : Nat} (h : i < l.length) : ∃ a, l[i]? = some a := ⟨_, List.getElem?_eq_getElem h⟩
theorem get_lt' {α : Type} {l : List α} {i : Nat} {a : α} (h : l[i]? = some a) : i < l.length := (List.getElem?_eq_some_iff.mp h).1
def pw (n : Nat) (f : List Nat) : Nat → List Nat
  | 0 => idm n
  | k + 1 => comp (pw n f k) f
theorem pw_valid {n : Nat} {f : List Nat} (hf : Valid n f) : ∀ k, Valid n (pw n f k)
  | 0 => idm_valid
  | k + 1 => comp_valid (pw_valid hf k) hf
theorem pw_comm {n : Nat} {f : List Nat} (hf : Valid n f) : ∀ k, comp f (pw n f k) = pw n f (k + 1)
  | 0 => by
    show comp f (idm n) = comp (idm n) f
    rw [comp_id hf, id_comp hf]
  | k + 1 => by
    show comp f (comp (pw n f k) f) = comp (pw n f (k + 1)) f
    rw [← comp_assoc hf (pw_valid hf k), pw_comm hf k]
/-- the powers 0 to L - 1 are unlike, power L is power i -/
structure Cyc (n : Nat) (f : List Nat) (L i : Nat) : Prop where
  inj : ∀ a b, a < b → b < L → pw n f a ≠ pw n f b
  lt : i < L
  again : pw n f L = pw n f i
theorem Cyc.uniq {n : Nat} {f : List Nat} {L i L' i' : Nat} (A : Cyc n f L i) (B : Cyc n f L' i') : L = L' ∧ i = i' := by
  have e : L = L' := by
    rcases Nat.lt_trichotomy L L' with h | h | h
    · exact absurd A.again.symm (B.inj i L A.lt h)
    · exact h
    · exact absurd B.again.symm (A.inj i' L' B.lt h)
  subst e
  refine ⟨rfl, ?_⟩
  rcases Nat.lt_trichotomy i i' with h | h | h
  · exact absurd (A.again.symm.trans B.again) (A.inj i i' h B.lt)
  · exact h
  · exact absurd (B.again.symm.trans A.again) (A.inj i' i h A.lt)
theorem p1 : ∀ a < 1, pw 1 [a] 15 = pw 1 [a] 3 := by decide +kernel
theorem p2 : ∀ a < 2, ∀ b < 2, pw 2 [a, b] 15 = pw 2 [a, b] 3 := by decide +kernel
theorem p3 : ∀ a < 3, ∀ b < 3, ∀ c < 3, pw 3 [a, b, c] 15 = pw 3 [a, b, c] 3 := by decide +kernel
theorem p4 : ∀ a < 4, ∀ b < 4, ∀ c < 4, ∀ d < 4, pw 4 [a, b, c, d] 15 = pw 4 [a, b, c, d] 3 := by decide +kernel
theorem pw_small {n : Nat} {f : List Nat} (hf : Valid n f) (n1 : 1 ≤ n) (n4 : n ≤ 4) : pw n f 15 = pw n f 3 := by
  obtain ⟨l, h⟩ := hf
  have : n = 1 ∨ n = 2 ∨ n = 3 ∨ n = 4 := by omega
  rcases this with rfl | rfl | rfl | rfl
  · match f, l with
    | [a], _ => exact p1 a (h a (by simp))
  · match f, l with
    | [a, b], _ => exact p2 a (h a (by simp)) b (h b (by simp))
  · match f, l with
    | [a, b, c], _ => exact p3 a (h a (by simp)) b (h b (by simp)) c (h c (by simp))
  · match f, l with
    | [a, b, c, d], _ => exact p4 a (h a (by simp)) b (h b (by simp)) c (h c (by simp)) d (h d (by simp))
theorem inj_le {n : Nat} {f : List Nat} (hf : Valid n f) (n1 : 1 ≤ n) (n4 : n ≤ 4) {L : Nat} (inj : ∀ a b, a < b → b < L → pw n f a ≠ pw n f b) : L ≤ 15 := by
  by_cases h : L ≤ 15
  · exact h
  · exact absurd (pw_small hf n1 n4).symm (inj 3 15 (by decide) (by omega))
theorem walk_word {rows : List (List Nat)} {m : List (Nat × Nat)} (hm : madeTab 0 rows [] = some m) : ∀ (k j : Nat), j ≤ k → j < m.length + 1 → walk rows 0 ((wordTab m).getD j []) = j
  | k, 0, _, _ => by rw [word_0]; rfl
  | 0, j + 1, h, _ => by omega
  | k + 1, j + 1, h, hj => by
    obtain ⟨p, hp⟩ := lt_get' (show j < m.length by omega)
    have hlt : ∀ (k : Nat) p, m[k]? = some p → p.1 < k + 1 := fun k p h => (madeTab_lt hm h).1
    obtain ⟨a, row, b, c⟩ := madeTab_lt hm hp
    rw [word_at hlt hp, walk_app, walk_word hm k p.1 (by omega) (by omega)]
    show (rows.getD p.1 []).getD p.2 0 = j + 1
    rw [getD_of b, getD_of c]
theorem compW_comp {n : Nat} {gens : List (List Nat)} (gv : ∀ g ∈ gens, Valid n g) {x : List Nat} (hx : Valid n x) : ∀ {w : List Nat} {y : List Nat}, Valid n y → (∀ c ∈ w, c < gens.length) → compW gens (comp x y) w = comp x (compW gens y w)
  | [], y, _, _ => rfl
  | c :: w, y, hy, hw => by
    obtain ⟨g, hg⟩ := lt_get' (hw c List.mem_cons_self)
    show compW gens (comp (comp x y) (gens.getD c [])) w = comp x (compW gens (comp y (gens.getD c [])) w)
    rw [getD_of hg, comp_assoc hx hy]
    exact compW_comp gv hx (comp_valid hy (gv g (List.mem_of_getElem? hg))) fun d hd => hw d (List.mem_cons_of_mem _ hd)
section
variable {n : Nat} {gens found rows : List (List Nat)} {m : List (Nat × Nat)}
theorem Tab.vg (T : Tab n gens found rows) : ∀ g ∈ gens, Valid n g := T.gval
theorem Tab.vf (T : Tab n gens found rows) {i : Nat} {x : List Nat} (h : found[i]? = some x) : Valid n x := T.val x (List.mem_of_getElem? h)
/-- products by words are products of maps -/
theorem Tab.prodW (T : Tab n gens found rows) (hm : madeTab 0 rows [] = some m) (lm : m.length + 1 = rows.length) {i j : Nat} {x y : List Nat} (hx : found[i]? = some x) (hy : found[j]? = some y) (wl : ∀ c ∈ (wordTab m).getD j [], c < gens.length) :
    found[Mon.walk rows i ((wordTab m).getD j [])]? = some (comp x y) := by
  have hj : j < m.length + 1 := by rw [lm, T.len]; exact get_lt' hy
  have e0 := T.walk (s := 0) T.head wl
  rw [walk_word hm j j (Nat.le_refl _) hj, hy] at e0
  have e1 := T.walk hx wl
  have e2 := compW_comp T.vg (T.vf hx) (w := (wordTab m).getD j []) (y := idm n) idm_valid wl
  rw [comp_id (T.vf hx)] at e2
  rw [e1, e2, ← Option.some.inj e0]
end
/-- numbers of powers -/
structure Pows (n : Nat) (found : List (List Nat)) (f : List Nat) (pl : List Nat) (i : Nat) : Prop where
  cyc : Cyc n f pl.length i
  at' : ∀ k r, pl[k]? = some r → found[r]? = some (pw n f k)
end Mon
namespace Mon
section
variable {n : Nat} {gens found rows : List (List Nat)} {f : List Nat}
/-- what the search for powers has found: numbers of the powers, all unlike -/
structure PI (n : Nat) (found : List (List Nat)) (f : List Nat) (pl : List Nat) : Prop where
  at' : ∀ (k r : Nat), pl[k]? = some r → found[r]? = some (pw n f k)
  inj : ∀ a b, a < b → b < pl.length → pw n f a ≠ pw n f b
theorem PI.nd (h : PI n found f pl) : pl.Nodup := by
  rw [List.Nodup, List.pairwise_iff_getElem]
  intro i j hi hj ij e
  have a := h.at' i pl[i] (List.getElem?_eq_getElem hi)
  have b := h.at' j pl[j] (List.getElem?_eq_getElem hj)
  rw [e] at a
  exact h.inj i j ij hj (Option.some.inj (a.symm.trans b))
theorem PI.more (h : PI n found f pl) (nd : found.Nodup) {r : Nat} (hr : found[r]? = some (pw n f pl.length)) (nr : r ∉ pl) : PI n found f (pl ++ [r]) where
  at' := fun k t ht => by
    by_cases hk : k < pl.length
    · rw [List.getElem?_append_left hk] at ht
      exact h.at' k t ht
    · have l := get_lt' ht
      rw [List.length_append, List.length_singleton] at l
      have e : k = pl.length := by omega
      subst e
      rw [List.getElem?_append_right (Nat.le_refl _), Nat.sub_self] at ht
      cases ht
      exact hr
  inj := fun a b ab hb e => by
    rw [List.length_append, List.length_singleton] at hb
    by_cases hk : b < pl.length
    · exact h.inj a b ab hk e
    · have eb : b = pl.length := by omega
      subst eb
      obtain ⟨t, ht⟩ := lt_get' (l := pl) (i := a) ab
      have := h.at' a t ht
      rw [e] at this
      have : t = r := nodup_at nd this hr
      exact nr (this ▸ List.mem_of_getElem? ht)
theorem PI.done (h : PI n found f pl) {r i : Nat} (hr : found[r]? = some (pw n f pl.length)) (hi : pl[i]? = some r) : Pows n found f pl i :=
  ⟨⟨h.inj, get_lt' hi, Option.some.inj (hr.symm.trans (h.at' i r hi))⟩, h.at'⟩
theorem PI.zero (T : Tab n gens found rows) : PI n found f [0] where
  at' := fun k r h => by
    have l := get_lt' h
    have e : k = 0 := by simpa using l
    subst e
    cases h
    exact T.head
  inj := fun a b ab hb => by
    have : b < 1 := hb
    omega
end
end Mon

set_option Elab.async false
set_option linter.all false
set_option maxRecDepth 100000
set_option maxHeartbeats 4000000
/-! Least words of products of maps of up to four points are short: what goes ahead of an element on its way are unlike maps whose kernels grow. -/
namespace Mon
def prs : List (Nat × Nat) := [(0, 1), (0, 2), (0, 3), (1, 2), (1, 3), (2, 3)]
/-- which points go together -/
def kp (x : List Nat) : List Bool := prs.map fun p => decide (x[p.1]? = x[p.2]?)
def wt (l : List Bool) : Nat := l.countP id
def kle (x y : List Nat) : Prop := ∀ a b : Nat, x[a]? = x[b]? → y[a]? = y[b]?
theorem kle_refl (x : List Nat) : kle x x := fun _ _ h => h
theorem kle_trans {x y z : List Nat} (h : kle x y) (k : kle y z) : kle x z := fun a b e => k a b (h a b e)
theorem kle_comp (x y : List Nat) : kle x (comp x y) := fun a b e => by
  unfold comp
  rw [List.getElem?_map, List.getElem?_map, e]
/-- all maps of four points -/
def all4 : List (List Nat) := (List.range 4).flatMap fun a => (List.range 4).flatMap fun b => (List.range 4).flatMap fun c => (List.range 4).map fun d => [a, b, c, d]
theorem in_all4 {x : List Nat} (h : Valid 4 x) : x ∈ all4 := by
  obtain ⟨l, o⟩ := h
  match x, l with
  | [a, b, c, d], _ =>
    simp only [all4, List.mem_flatMap, List.mem_map, List.mem_range]
    exact ⟨a, o a (by simp), b, o b (by simp), c, o c (by simp), d, o d (by simp), rfl⟩
def c4 (v : Nat) : Nat := [24, 24, 12, 12, 0, 0, 4].getD v 0
def parts : List (List Bool) := [[false, false, false, false, false, false], [false, false, false, false, false, true], [false, false, false, false, true, false], [false, false, false, true, false, false], [false, false, false, true, true, true], [false, false, true, false, false, false], [false, false, true, true, false, false], [false, true, false, false, false, false], [false, true, false, false, true, false], [false, true, true, false, false, true], [true, false, false, false, false, false], [true, false, false, false, false, true], [true, false, true, false, true, false], [true, true, false, true, false, false], [true, true, true, true, true, true]]
theorem in_parts : ∀ x ∈ all4, kp x ∈ parts := by decide +kernel
theorem fewK : ∀ k ∈ parts, (all4.filter fun y => kp y = k).length ≤ c4 (wt k) ∧ wt k < 7 := by decide +kernel
theorem few4 (x : List Nat) (h : x ∈ all4) : (all4.filter fun y => kp y = kp x).length ≤ c4 (wt (kp x)) ∧ wt (kp x) < 7 := fewK _ (in_parts x h)
theorem sub_len {α : Type} [DecidableEq α] : ∀ {l m : List α}, l.Nodup → (∀ x ∈ l, x ∈ m) → l.length ≤ m.length
  | [], m, _, _ => Nat.zero_le _
  | x :: l, m, nd, h => by
    obtain ⟨h1, h2⟩ := List.nodup_cons.mp nd
    have q := sub_len (l := l) (m := m.erase x) h2 fun y hy => (List.mem_erase_of_ne (fun e : y = x => h1 (e ▸ hy))).mpr (h y (List.mem_cons_of_mem _ hy))
    rw [List.length_erase_of_mem (h x List.mem_cons_self)] at q
    have := List.length_pos_of_mem (h x List.mem_cons_self)
    rw [List.length_cons]
    omega
/-- pointwise, a list of truths below another of the same weight is that -/
theorem wt_eq : ∀ {l m : List Bool}, l.length = m.length → (∀ (i : Nat), l[i]? = some true → m[i]? = some true) → wt m ≤ wt l → l = m
  | [], [], _, _, _ => rfl
  | a :: l, b :: m, e, h, w => by
    have h0 := h 0
    have hr : ∀ (i : Nat), l[i]? = some true → m[i]? = some true := fun i hi => h (i + 1) hi
    have mono : ∀ {l m : List Bool}, l.length = m.length → (∀ (i : Nat), l[i]? = some true → m[i]? = some true) → wt l ≤ wt m := by
      intro l
      induction l with
      | nil => intro m _ _; exact Nat.zero_le _
      | cons a l ih =>
        intro m e h
        match m, e with
        | b :: m, e =>
          have q := ih (m := m) (by simpa using e) fun i hi => h (i + 1) hi
          have h0 := h 0
          cases a <;> cases b <;> simp [wt] at * <;> omega
    have q := mono (by simpa using e) hr
    have lm : l.length = m.length := by simpa using e
    cases a <;> cases b <;> simp [wt] at * <;> first | exact wt_eq lm hr (by simpa [wt] using w) | (exfalso; omega)
theorem kp_same {x y : List Nat} (h : kle x y) (w : wt (kp y) ≤ wt (kp x)) : kp x = kp y := by
  refine wt_eq (by simp [kp]) (fun i hi => ?_) w
  unfold kp at hi ⊢
  rw [List.getElem?_map] at hi ⊢
  obtain ⟨p, hp, e⟩ := Option.map_eq_some_iff.mp hi
  rw [hp]
  exact congrArg some (decide_eq_true (h _ _ (of_decide_eq_true e)))
/-- unlike maps of four points whose kernels grow are few -/
theorem chain_few {l : List (List Nat)} (nd : l.Nodup) (val : ∀ x ∈ l, Valid 4 x) (ch : l.Pairwise kle) : l.length ≤ 76 := by
  have tot : (l.map fun x => wt (kp x)).length = (cvec 7 (l.map fun x => wt (kp x))).sum := (cvec_sum (N := 7) fun v hv => by
    obtain ⟨x, hx, rfl⟩ := List.mem_map.mp hv
    exact (few4 x (in_all4 (val x hx))).2).symm
  have each : ∀ v, (l.map fun x => wt (kp x)).count v ≤ c4 v := fun v => by
    have e : (l.map fun x => wt (kp x)).count v = (l.filter fun x => wt (kp x) = v).length := by
      rw [List.count, List.countP_map, List.countP_eq_length_filter]
      congr 2
    rw [e]
    cases hf : l.filter fun x => wt (kp x) = v with
    | nil => exact Nat.zero_le _
    | cons x r =>
      rw [← hf]
      have hx : x ∈ l.filter fun x => wt (kp x) = v := by rw [hf]; exact List.mem_cons_self
      obtain ⟨xl, xv⟩ := List.mem_filter.mp hx
      have xv : wt (kp x) = v := of_decide_eq_true xv
      have ch' : (l.filter fun x => wt (kp x) = v).Pairwise kle := ch.sublist List.filter_sublist
      rw [hf] at ch'
      have h1 := (List.pairwise_cons.mp ch').1
      have q := few4 x (in_all4 (val x xl))
      rw [xv] at q
      refine Nat.le_trans (sub_len (nd.sublist List.filter_sublist) fun y hy => ?_) q.1
      obtain ⟨yl, yv⟩ := List.mem_filter.mp hy
      have yv : wt (kp y) = v := of_decide_eq_true yv
      refine List.mem_filter.mpr ⟨in_all4 (val y yl), decide_eq_true ?_⟩
      rw [hf] at hy
      rcases List.mem_cons.mp hy with rfl | hy
      · rfl
      · exact (kp_same (h1 y hy) (by omega)).symm
  rw [List.length_map] at tot
  rw [tot]
  show ((List.range 7).map fun k => (l.map fun x => wt (kp x)).count k).sum ≤ 76
  have e0 := each 0
  have e1 := each 1
  have e2 := each 2
  have e3 := each 3
  have e4 := each 4
  have e5 := each 5
  have e6 := each 6
  rw [show c4 0 = 24 from rfl] at e0
  rw [show c4 1 = 24 from rfl] at e1
  rw [show c4 2 = 12 from rfl] at e2
  rw [show c4 3 = 12 from rfl] at e3
  rw [show c4 4 = 0 from rfl] at e4
  rw [show c4 5 = 0 from rfl] at e5
  rw [show c4 6 = 4 from rfl] at e6
  simp only [show List.range 7 = [0, 1, 2, 3, 4, 5, 6] from rfl, List.map_cons, List.map_nil, List.sum_cons, List.sum_nil]
  omega
section
variable {n : Nat} {gens found rows : List (List Nat)} {m : List (Nat × Nat)}
/-- the way to element j -/
theorem way (T : Tab n gens found rows) (hm : madeTab 0 rows [] = some m) (lm : m.length + 1 = rows.length) : ∀ (k j : Nat), j ≤ k → j < m.length + 1 → ∃ (ps : List (List Nat)) (z : List Nat), found[j]? = some z ∧ ps.length = ((wordTab m).getD j []).length + 1 ∧ ps.Nodup ∧ ps.Pairwise kle ∧ (∀ x ∈ ps, kle x z) ∧ ∀ x ∈ ps, ∃ i, i ≤ j ∧ found[i]? = some x
  | k, 0, _, _ => ⟨[idm n], idm n, T.head, by rw [word_0]; rfl, by simp, by simp, fun x hx => by rw [List.mem_singleton.mp hx]; exact kle_refl _, fun x hx => ⟨0, Nat.le_refl _, by rw [List.mem_singleton.mp hx]; exact T.head⟩⟩
  | 0, j + 1, h, _ => by omega
  | k + 1, j + 1, h, hj => by
    obtain ⟨p, hp⟩ := lt_get' (show j < m.length by omega)
    have hlt : ∀ (k : Nat) p, m[k]? = some p → p.1 < k + 1 := fun k p h => (madeTab_lt hm h).1
    obtain ⟨a, row, b, c⟩ := madeTab_lt hm hp
    obtain ⟨ps, z, hz, lps, nd, pw, le, mem⟩ := way T hm lm k p.1 (by omega) (by omega)
    obtain ⟨x, g, hx, hg, ht⟩ := T.ent p.1 row b p.2 (j + 1) c
    rw [hz] at hx
    cases hx
    refine ⟨ps ++ [comp z g], comp z g, ht, ?_, ?_, ?_, ?_, ?_⟩
    · rw [List.length_append, lps, word_at hlt hp, List.length_append]
      rfl
    · rw [List.nodup_append]
      refine ⟨nd, by simp, fun x hx y hy e => ?_⟩
      rw [List.mem_singleton.mp hy] at e
      obtain ⟨i, il, hi⟩ := mem x hx
      rw [e] at hi
      have := nodup_at T.nd hi ht
      omega
    · rw [List.pairwise_append]
      refine ⟨pw, by simp, fun x hx y hy => ?_⟩
      rw [List.mem_singleton.mp hy]
      exact kle_trans (le x hx) (kle_comp z g)
    · intro x hx
      rcases List.mem_append.mp hx with hx | hx
      · exact kle_trans (le x hx) (kle_comp z g)
      · rw [List.mem_singleton.mp hx]
        exact kle_refl _
    · intro x hx
      rcases List.mem_append.mp hx with hx | hx
      · obtain ⟨i, il, hi⟩ := mem x hx
        exact ⟨i, by omega, hi⟩
      · rw [List.mem_singleton.mp hx]
        exact ⟨j + 1, Nat.le_refl _, ht⟩
theorem word_100 (T : Tab n gens found rows) (n1 : 1 ≤ n) (n4 : n ≤ 4) (hm : madeTab 0 rows [] = some m) (lm : m.length + 1 = rows.length) (j : Nat) : ((wordTab m).getD j []).length ≤ 100 := by
  by_cases hj : j < m.length + 1
  · obtain ⟨ps, z, hz, lps, nd, pw, le, mem⟩ := way T hm lm j j (Nat.le_refl _) hj
    have val : ∀ x ∈ ps, Valid n x := fun x hx => by
      obtain ⟨i, _, hi⟩ := mem x hx
      exact T.vf hi
    by_cases h4 : n = 4
    · subst h4
      have := chain_few nd val pw
      omega
    · have f1 := maps_few nd val
      have : n = 1 ∨ n = 2 ∨ n = 3 := by omega
      have f2 : n ^ n ≤ 27 := by rcases this with rfl | rfl | rfl <;> decide
      omega
  · rw [List.getD, List.getElem?_eq_none (by rw [word_len]; omega)]
    exact Nat.zero_le _
end
end Mon

set_option Elab.async false
set_option linter.all false
set_option maxRecDepth 100000
set_option maxHeartbeats 4000000
/-! A monoid turned about: the left table, numbered from 0 on, is the right table of the same letters multiplied the other way round. -/
namespace Ass
open PySem PySem.Spec PyProof.Rows L2 Lf
/-- the right table of a monoid -/
structure Md (rows : List (List Nat)) (wd : Nat) (m : List (Nat × Nat)) : Prop where
  F : Form rows wd
  made : Mon.madeTab 0 rows [] = some m
  g : ∀ i, gRow rows (Mon.leftTab rows m) i
def O (rows : List (List Nat)) (m : List (Nat × Nat)) : List Nat := Reach.ord (Mon.leftTab rows m) 0
/-- where a number is in the opposite -/
def tn (rows : List (List Nat)) (m : List (Nat × Nat)) (x : Nat) : Nat := Reach.idx (O rows m) x
def opp (rows : List (List Nat)) (m : List (Nat × Nat)) : List (List Nat) := Reach.renum (Mon.leftTab rows m) 0
section
variable {rows : List (List Nat)} {wd : Nat} {m m' : List (Nat × Nat)}
theorem Md.len (M : Md rows wd m) : m.length + 1 = rows.length := made_len M.F M.made
theorem Md.p0 (M : Md rows wd m) : 0 < rows.length := by have := M.F.1; omega
theorem Md.as_ (M : Md rows wd m) {x y z : Nat} (hx : x < rows.length) (hy : y < rows.length) (hz : z < rows.length) : mt rows m (mt rows m x y) z = mt rows m x (mt rows m y z) := (assoc_of M.F M.made M.g).1 x y z hx hy hz
theorem Md.gen (M : Md rows wd m) {i c : Nat} (hi : i < rows.length) (hc : c < wd) : (rows.getD i []).getD c 0 = mt rows m i ((rows.getD 0 []).getD c 0) := (assoc_of M.F M.made M.g).2 i c hi hc
theorem Md.wrd (M : Md rows wd m) {k : Nat} (h : k < rows.length) : Mon.walk rows 0 (wd_ m k) = k ∧ ∀ c ∈ wd_ m k, c < wd := wrd_ok M.F M.made k h
theorem Md.lt (M : Md rows wd m) {x y : Nat} (hx : x < rows.length) (hy : y < rows.length) : mt rows m x y < rows.length := walk_lt M.F hx (M.wrd hy).2
theorem Md.ent (M : Md rows wd m) {i c : Nat} (hi : i < rows.length) (hc : c < wd) : (rows.getD i []).getD c 0 < rows.length := by
  obtain ⟨row, hr⟩ := lt_get hi
  have fr := M.F.2.2.2.2 row (List.mem_of_getElem? hr)
  obtain ⟨t, ht⟩ := lt_get (show c < row.length by rw [fr.1]; exact hc)
  rw [Mon.getD_of hr, Mon.getD_of ht]
  exact fr.2 t (List.mem_of_getElem? ht)
theorem wd_0 (M : Md rows wd m) : wd_ m 0 = [] := Mon.word_0
theorem Md.one_r (M : Md rows wd m) (x : Nat) : mt rows m x 0 = x := by
  show Mon.walk rows x (wd_ m 0) = x
  rw [wd_0 M]
  rfl
theorem Md.one_l (M : Md rows wd m) {x : Nat} (hx : x < rows.length) : mt rows m 0 x = x := (M.wrd hx).1
theorem Md.left_len (M : Md rows wd m) : (Mon.leftTab rows m).length = rows.length := by rw [Mon.left_len, M.len]
theorem Md.left_row (M : Md rows wd m) {k : Nat} {l : List Nat} (h : (Mon.leftTab rows m)[k]? = some l) : l.length = wd ∧ ∀ x ∈ l, x < rows.length :=
  (⟨M.F, M.made, M.len⟩ : Acc0 rows wd m).left m.length l (by rw [List.take_length]; exact List.mem_of_getElem? h)
/-- a letter in front -/
theorem Md.left (M : Md rows wd m) {i c : Nat} (hi : i < rows.length) (hc : c < wd) : ((Mon.leftTab rows m).getD i []).getD c 0 = mt rows m ((rows.getD 0 []).getD c 0) i := lam_eq M.F M.made hc hi
theorem Md.rf (M : Md rows wd m) : Reach.Rf (Mon.leftTab rows m) 0 := ⟨by rw [M.left_len]; exact M.p0, fun row hr e he => by
  obtain ⟨k, hk⟩ := List.getElem?_of_mem hr
  rw [M.left_len]
  exact (M.left_row hk).2 e he⟩
/-- words in the left table are words in front, the other way round -/
theorem Md.walkL (M : Md rows wd m) : ∀ {w : List Nat} {i : Nat}, i < rows.length → (∀ c ∈ w, c < wd) → Mon.walk (Mon.leftTab rows m) i w = mt rows m (Mon.walk rows 0 w.reverse) i
  | [], i, hi, _ => (M.one_l hi).symm
  | c :: w, i, hi, hw => by
    have hc := hw c List.mem_cons_self
    have hw' : ∀ x ∈ w, x < wd := fun x hx => hw x (List.mem_cons_of_mem _ hx)
    have g0 := M.ent M.p0 hc
    have wl : Mon.walk rows 0 w.reverse < rows.length := walk_lt M.F M.p0 fun x hx => hw' x (List.mem_reverse.mp hx)
    have e : Mon.walk (Mon.leftTab rows m) i (c :: w) = Mon.walk (Mon.leftTab rows m) (((Mon.leftTab rows m).getD i []).getD c 0) w := rfl
    rw [e, M.left hi hc, Md.walkL M (M.lt g0 hi) hw', ← M.as_ wl g0 hi, ← M.gen wl hc, List.reverse_cons, Mon.walk_app]
    rfl
theorem Md.mem0 (M : Md rows wd m) : 0 ∈ O rows m := (Reach.known_pre (rows := Mon.leftTab rows m) (f := 0) (Nat.zero_le (Mon.leftTab rows m).length)).subset (List.mem_singleton.mpr rfl)
theorem Md.closed (M : Md rows wd m) : ∀ {w : List Nat} {i : Nat}, i ∈ O rows m → (∀ c ∈ w, c < wd) → Mon.walk (Mon.leftTab rows m) i w ∈ O rows m
  | [], i, hi, _ => hi
  | c :: w, i, hi, hw => by
    have hc := hw c List.mem_cons_self
    have il : i < rows.length := by rw [← M.left_len]; exact Reach.known_lt M.rf hi
    obtain ⟨k, hk⟩ := List.getElem?_of_mem hi
    refine Md.closed M (i := ((Mon.leftTab rows m).getD i []).getD c 0) ?_ fun x hx => hw x (List.mem_cons_of_mem _ hx)
    obtain ⟨l, hl⟩ := lt_get (show i < (Mon.leftTab rows m).length by rw [M.left_len]; exact il)
    obtain ⟨t, ht⟩ := lt_get (show c < l.length by rw [(M.left_row hl).1]; exact hc)
    rw [Mon.getD_of hl, Mon.getD_of ht]
    exact Reach.row_ord M.rf hk (by rw [Mon.getD_of hl]; exact List.mem_of_getElem? ht)
/-- all are met -/
theorem Md.all (M : Md rows wd m) {x : Nat} (hx : x < rows.length) : x ∈ O rows m := by
  obtain ⟨e, l⟩ := M.wrd hx
  have lr : ∀ c ∈ (wd_ m x).reverse, c < wd := fun c hc => l c (List.mem_reverse.mp hc)
  have := M.closed (w := (wd_ m x).reverse) M.mem0 lr
  rw [M.walkL M.p0 lr, List.reverse_reverse, e, M.one_r] at this
  exact this
theorem Md.nd (M : Md rows wd m) : (O rows m).Nodup := Reach.ord_nd
theorem Md.memlt (M : Md rows wd m) {x : Nat} (h : x ∈ O rows m) : x < rows.length := by rw [← M.left_len]; exact Reach.known_lt M.rf h
theorem Md.olen (M : Md rows wd m) : (O rows m).length = rows.length := by
  refine Nat.le_antisymm (Reach.nd_len M.nd fun x hx => M.memlt hx) ?_
  have := Mon.sub_len (List.nodup_range (n := rows.length)) fun x hx => M.all (List.mem_range.mp hx)
  rwa [List.length_range] at this
theorem Md.tn_lt (M : Md rows wd m) {x : Nat} (hx : x < rows.length) : tn rows m x < rows.length := by
  rw [← M.olen]
  exact Reach.idx_lt (M.all hx)
theorem Md.o_tn (M : Md rows wd m) {x : Nat} (hx : x < rows.length) : (O rows m)[tn rows m x]? = some x := Reach.idx_get (M.all hx)
theorem Md.o_get (M : Md rows wd m) {k : Nat} (hk : k < rows.length) : ∃ x, (O rows m)[k]? = some x ∧ x < rows.length ∧ tn rows m x = k := by
  obtain ⟨x, hx⟩ := lt_get (show k < (O rows m).length by rw [M.olen]; exact hk)
  exact ⟨x, hx, M.memlt (List.mem_of_getElem? hx), Reach.idx_at M.nd hx⟩
theorem Md.tn_inj (M : Md rows wd m) {x y : Nat} (hx : x < rows.length) (hy : y < rows.length) (e : tn rows m x = tn rows m y) : x = y := by
  have := M.o_tn hx
  rw [e, M.o_tn hy] at this
  exact (Option.some.inj this).symm
theorem Md.tn_0 (M : Md rows wd m) : tn rows m 0 = 0 := by
  have : (O rows m)[0]? = some 0 := Reach.pre_get (Reach.known_pre (rows := Mon.leftTab rows m) (f := 0) (Nat.zero_le (Mon.leftTab rows m).length)) rfl
  exact Reach.idx_at M.nd this
theorem Md.opp_len (M : Md rows wd m) : (opp rows m).length = rows.length := by
  unfold opp
  rw [Reach.renum_len]
  exact M.olen
/-- the opposite's row for a number -/
theorem Md.opp_row (M : Md rows wd m) {x : Nat} (hx : x < rows.length) : (opp rows m)[tn rows m x]? = some (((Mon.leftTab rows m).getD x []).map (tn rows m)) := by
  unfold opp Reach.renum
  rw [List.getElem?_map, show (Reach.ord (Mon.leftTab rows m) 0)[tn rows m x]? = some x from M.o_tn hx]
  rfl
theorem Md.opp_ent (M : Md rows wd m) {x c : Nat} (hx : x < rows.length) (hc : c < wd) : ((opp rows m).getD (tn rows m x) []).getD c 0 = tn rows m (mt rows m ((rows.getD 0 []).getD c 0) x) := by
  rw [Mon.getD_of (M.opp_row hx), ← M.left hx hc]
  obtain ⟨l, hl⟩ := lt_get (show x < (Mon.leftTab rows m).length by rw [M.left_len]; exact hx)
  obtain ⟨t, ht⟩ := lt_get (show c < l.length by rw [(M.left_row hl).1]; exact hc)
  rw [Mon.getD_of hl, Mon.getD_of ht]
  have : (l.map (tn rows m))[c]? = some (tn rows m t) := by rw [List.getElem?_map, ht]; rfl
  rw [Mon.getD_of this]
theorem Md.opp_form (M : Md rows wd m) : Form (opp rows m) wd := by
  obtain ⟨f1, f2, w1, w6, fr⟩ := M.F
  refine ⟨by rw [M.opp_len]; exact f1, by rw [M.opp_len]; exact f2, w1, w6, fun row hr => ?_⟩
  obtain ⟨a, ha, e1, e2⟩ := Reach.renum_row M.rf hr
  refine ⟨?_, e2⟩
  obtain ⟨l, hl⟩ := lt_get ha
  rw [e1, Mon.getD_of hl]
  exact (M.left_row hl).1
theorem Md.opp_made (M : Md rows wd m) : ∃ m', Mon.madeTab 0 (opp rows m) [] = some m' := by
  obtain ⟨m', a, _⟩ := Reach.renum_made M.rf
  exact ⟨m', a⟩
theorem Md.walkR (M : Md rows wd m) : ∀ {w : List Nat} {x : Nat}, x < rows.length → (∀ c ∈ w, c < wd) → Mon.walk (opp rows m) (tn rows m x) w = tn rows m (Mon.walk (Mon.leftTab rows m) x w)
  | [], x, _, _ => rfl
  | c :: w, x, hx, hw => by
    have hc := hw c List.mem_cons_self
    have e : Mon.walk (opp rows m) (tn rows m x) (c :: w) = Mon.walk (opp rows m) (((opp rows m).getD (tn rows m x) []).getD c 0) w := rfl
    have e2 : Mon.walk (Mon.leftTab rows m) x (c :: w) = Mon.walk (Mon.leftTab rows m) (((Mon.leftTab rows m).getD x []).getD c 0) w := rfl
    rw [e, e2, M.opp_ent hx hc, M.left hx hc]
    exact Md.walkR M (M.lt (M.ent M.p0 hc) hx) fun y hy => hw y (List.mem_cons_of_mem _ hy)
/-- products the other way round -/
theorem Md.opp_mt (M : Md rows wd m) (hm' : Mon.madeTab 0 (opp rows m) [] = some m') {x y : Nat} (hx : x < rows.length) (hy : y < rows.length) : mt (opp rows m) m' (tn rows m x) (tn rows m y) = tn rows m (mt rows m y x) := by
  obtain ⟨e, l⟩ := wrd_ok M.opp_form hm' (tn rows m y) (by rw [M.opp_len]; exact M.tn_lt hy)
  have z : Mon.walk (opp rows m) (tn rows m 0) (wd_ m' (tn rows m y)) = tn rows m (Mon.walk rows 0 (wd_ m' (tn rows m y)).reverse) := by rw [M.walkR M.p0 l, M.walkL M.p0 l, M.one_r]
  rw [M.tn_0, e] at z
  have wl : Mon.walk rows 0 (wd_ m' (tn rows m y)).reverse < rows.length := walk_lt M.F M.p0 fun c hc => l c (List.mem_reverse.mp hc)
  have z := M.tn_inj hy wl z
  show Mon.walk (opp rows m) (tn rows m x) (wd_ m' (tn rows m y)) = _
  rw [M.walkR hx l, M.walkL hx l, ← z]
/-- the opposite is a monoid -/
theorem Md.opp (M : Md rows wd m) (hm' : Mon.madeTab 0 (Ass.opp rows m) [] = some m') : Md (Ass.opp rows m) wd m' := by
  have lt := fun {k : Nat} (h : k < (Ass.opp rows m).length) => M.o_get (show k < rows.length by rw [← M.opp_len]; exact h)
  refine ⟨M.opp_form, hm', of_assoc M.opp_form hm' (fun x y z hx hy hz => ?_) fun i c hi hc => ?_⟩
  · obtain ⟨a, _, ha, rfl⟩ := lt hx
    obtain ⟨b, _, hb, rfl⟩ := lt hy
    obtain ⟨d, _, hd, rfl⟩ := lt hz
    rw [M.opp_mt hm' ha hb, M.opp_mt hm' (M.lt hb ha) hd, M.opp_mt hm' hb hd, M.opp_mt hm' ha (M.lt hd hb), M.as_ hd hb ha]
  · obtain ⟨a, _, ha, rfl⟩ := lt hi
    have g0 := M.ent M.p0 hc
    have e := M.opp_ent M.p0 hc
    rw [M.tn_0, M.one_r] at e
    rw [M.opp_ent ha hc, e, M.opp_mt hm' ha g0]
/-- the opposite's left table holds the table -/
theorem Md.scat (M : Md rows wd m) (hm' : Mon.madeTab 0 (Ass.opp rows m) [] = some m') : Reach.Scat rows (Mon.leftTab (Ass.opp rows m) m') (tn rows m) := by
  have M' := M.opp hm'
  refine ⟨fun i j hi hj e => M.tn_inj hi hj e, fun j hj => ?_, by rw [M'.left_len, M.opp_len]; exact Nat.le_refl _, fun row hr e he => (M.F.2.2.2.2 row hr).2 e he, M.p0⟩
  have tj : tn rows m j < (Ass.opp rows m).length := by rw [M.opp_len]; exact M.tn_lt hj
  obtain ⟨l, hl⟩ := lt_get (show tn rows m j < (Mon.leftTab (Ass.opp rows m) m').length by rw [M'.left_len]; exact tj)
  obtain ⟨row, hr⟩ := lt_get hj
  have fr := M.F.2.2.2.2 row (List.mem_of_getElem? hr)
  rw [Mon.getD_of hl, Mon.getD_of hr]
  refine List.ext_getElem? fun c => ?_
  by_cases hc : c < wd
  case neg => rw [List.getElem?_eq_none (by rw [(M'.left_row hl).1]; omega), List.getElem?_eq_none (by rw [List.length_map, fr.1]; omega)]
  obtain ⟨t, ht⟩ := lt_get (show c < l.length by rw [(M'.left_row hl).1]; exact hc)
  obtain ⟨s, hs⟩ := lt_get (show c < row.length by rw [fr.1]; exact hc)
  have e := M'.left tj hc
  rw [Mon.getD_of hl, Mon.getD_of ht] at e
  have e0 := M.opp_ent M.p0 hc
  rw [M.tn_0, M.one_r] at e0
  have g0 := M.ent M.p0 hc
  rw [e0, M.opp_mt hm' g0 hj, ← M.gen hj hc, Mon.getD_of hr, Mon.getD_of hs] at e
  rw [ht, List.getElem?_map, hs, e]
  rfl
/-- twice turned about -/
theorem Md.opp_opp (M : Md rows wd m) (hm' : Mon.madeTab 0 (Ass.opp rows m) [] = some m') : Ass.opp (Ass.opp rows m) m' = rows := by
  have := Reach.scat_renum (M.scat hm') M.made M.len
  rw [M.tn_0] at this
  exact this
theorem Md.o_opp (M : Md rows wd m) (hm' : Mon.madeTab 0 (Ass.opp rows m) [] = some m') : O (Ass.opp rows m) m' = (List.range rows.length).map (tn rows m) := by
  have := Reach.scat_ord (M.scat hm') M.made M.len
  rw [M.tn_0] at this
  exact this
theorem Md.tn_tn (M : Md rows wd m) (hm' : Mon.madeTab 0 (Ass.opp rows m) [] = some m') {x : Nat} (hx : x < rows.length) : tn (Ass.opp rows m) m' (tn rows m x) = x := by
  have M' := M.opp hm'
  refine Reach.idx_at M'.nd ?_
  rw [M.o_opp hm', List.getElem?_map, List.getElem?_range hx]
  rfl
end
end Ass

set_option Elab.async false
set_option linter.all false
set_option maxRecDepth 100000
set_option maxHeartbeats 4000000
/-! Powers of an element of a monoid, by its right table; the same in the opposite. -/
namespace Ass
open PySem PySem.Spec PyProof.Rows L2 Lf
/-- powers, the element in front -/
def pm (rows : List (List Nat)) (m : List (Nat × Nat)) (x : Nat) : Nat → Nat
  | 0 => 0
  | k + 1 => mt rows m x (pm rows m x k)
/-- L powers are unlike, the next one is that of index i -/
structure Cy (rows : List (List Nat)) (m : List (Nat × Nat)) (x L i : Nat) : Prop where
  inj : ∀ a b, a < b → b < L → pm rows m x a ≠ pm rows m x b
  lt : i < L
  eq : pm rows m x L = pm rows m x i
structure PI (rows : List (List Nat)) (m : List (Nat × Nat)) (x : Nat) (pl : List Nat) : Prop where
  at' : ∀ (k r : Nat), pl[k]? = some r → r = pm rows m x k
  inj : ∀ a b, a < b → b < pl.length → pm rows m x a ≠ pm rows m x b
section
variable {rows : List (List Nat)} {wd : Nat} {m m' : List (Nat × Nat)} {x : Nat} {pl : List Nat}
theorem Cy.uniq {L i L' i' : Nat} (A : Cy rows m x L i) (B : Cy rows m x L' i') : L = L' ∧ i = i' := by
  have e : L = L' := by
    rcases Nat.lt_trichotomy L L' with h | h | h
    · exact absurd A.eq.symm (B.inj _ _ A.lt h)
    · exact h
    · exact absurd B.eq.symm (A.inj _ _ B.lt h)
  subst e
  refine ⟨rfl, ?_⟩
  rcases Nat.lt_trichotomy i i' with h | h | h
  · exact absurd (A.eq.symm.trans B.eq) (A.inj _ _ h B.lt)
  · exact h
  · exact absurd (B.eq.symm.trans A.eq) (A.inj _ _ h A.lt)
theorem Md.pm_lt (M : Md rows wd m) (hx : x < rows.length) : ∀ k, pm rows m x k < rows.length
  | 0 => M.p0
  | k + 1 => M.lt hx (M.pm_lt hx k)
theorem Md.pm_comm (M : Md rows wd m) (hx : x < rows.length) : ∀ k, mt rows m (pm rows m x k) x = mt rows m x (pm rows m x k)
  | 0 => by show mt rows m 0 x = mt rows m x 0; rw [M.one_l hx, M.one_r]
  | k + 1 => by
    show mt rows m (mt rows m x (pm rows m x k)) x = mt rows m x (mt rows m x (pm rows m x k))
    rw [M.as_ hx (M.pm_lt hx k) hx, M.pm_comm hx k]
/-- powers in the opposite -/
theorem Md.pm_opp (M : Md rows wd m) (hm' : Mon.madeTab 0 (Ass.opp rows m) [] = some m') (hx : x < rows.length) : ∀ k, pm (Ass.opp rows m) m' (tn rows m x) k = tn rows m (pm rows m x k)
  | 0 => M.tn_0.symm
  | k + 1 => by
    show mt _ m' (tn rows m x) (pm (Ass.opp rows m) m' (tn rows m x) k) = tn rows m (mt rows m x (pm rows m x k))
    rw [M.pm_opp hm' hx k, M.opp_mt hm' hx (M.pm_lt hx k), M.pm_comm hx k]
theorem Cy.opp (M : Md rows wd m) (hm' : Mon.madeTab 0 (Ass.opp rows m) [] = some m') (hx : x < rows.length) {L i : Nat} (c : Cy rows m x L i) : Cy (Ass.opp rows m) m' (tn rows m x) L i := by
  refine ⟨fun a b ab hb e => ?_, c.lt, by rw [M.pm_opp hm' hx, M.pm_opp hm' hx, c.eq]⟩
  rw [M.pm_opp hm' hx, M.pm_opp hm' hx] at e
  exact c.inj a b ab hb (M.tn_inj (M.pm_lt hx a) (M.pm_lt hx b) e)
theorem PI.nd (h : PI rows m x pl) : pl.Nodup := by
  rw [List.Nodup, List.pairwise_iff_getElem]
  intro i j hi hj ij e
  have a := h.at' i pl[i] (List.getElem?_eq_getElem hi)
  have b := h.at' j pl[j] (List.getElem?_eq_getElem hj)
  rw [e] at a
  exact h.inj i j ij hj (a.symm.trans b)
theorem PI.lt (M : Md rows wd m) (hx : x < rows.length) (h : PI rows m x pl) : pl.length ≤ rows.length := Reach.nd_len h.nd fun y hy => by
  obtain ⟨k, hk⟩ := List.getElem?_of_mem hy
  rw [h.at' k y hk]
  exact M.pm_lt hx k
theorem PI.more (h : PI rows m x pl) {r : Nat} (hr : r = pm rows m x pl.length) (nr : r ∉ pl) : PI rows m x (pl ++ [r]) where
  at' := fun k t ht => by
    by_cases hk : k < pl.length
    · rw [List.getElem?_append_left hk] at ht
      exact h.at' k t ht
    · have l := get_lt ht
      rw [List.length_append, List.length_singleton] at l
      have e : k = pl.length := by omega
      subst e
      rw [List.getElem?_append_right (Nat.le_refl _), Nat.sub_self] at ht
      cases ht
      exact hr
  inj := fun a b ab hb e => by
    rw [List.length_append, List.length_singleton] at hb
    by_cases hk : b < pl.length
    · exact h.inj a b ab hk e
    · have eb : b = pl.length := by omega
      subst eb
      obtain ⟨t, ht⟩ := lt_get (l := pl) (i := a) ab
      have := h.at' a t ht
      rw [← hr] at e
      rw [← this] at e
      exact nr (e ▸ List.mem_of_getElem? ht)
theorem PI.done (h : PI rows m x pl) {r i : Nat} (hr : r = pm rows m x pl.length) (hi : pl[i]? = some r) : Cy rows m x pl.length i :=
  ⟨h.inj, get_lt hi, hr.symm.trans (h.at' i r hi)⟩
theorem PI.zero : PI rows m x [0] where
  at' := fun k r h => by
    have l := get_lt h
    have e : k = 0 := by simpa using l
    subst e
    cases h
    rfl
  inj := fun a b ab hb => by
    have : b < 1 := hb
    omega
end
end Ass

set_option Elab.async false
set_option linter.all false
set_option maxRecDepth 100000
set_option maxHeartbeats 8000000
namespace K16
open PySem PySem.Spec PyProof.Rows L2 Lf
theorem accept_md {rows : List (List Nat)} {wd : Nat} {m : List (Nat × Nat)} (M : Ass.Md rows wd m) : Accept rows wd m :=
  ⟨M.F, M.made, M.len, fun i k l h => (⟨M.F, M.made, M.len⟩ : Ass.Acc0 rows wd m).left i l (List.mem_of_getElem? h), fun i row c t li lt h1 h2 h3 h4 => M.g i c row t li lt h1 h2 h3 h4⟩
theorem md_accept {rows : List (List Nat)} {wd : Nat} {m : List (Nat × Nat)} (A : Accept rows wd m) : Ass.Md rows wd m :=
  ⟨A.form, A.made, fun i c row t li lt h1 h2 h3 h4 => A.prod i row c t li lt h1 h2 h3 h4⟩
theorem mk_mon {K : PySem.W.Frag} {H : Hp} {r x dx : Addr} {rows : List (List Nat)} {wd : Nat} {m : List (Nat × Nat)} {W : Hp → Prop} {E : XK} (R : RowsL K H r rows) (A : Ass.Md rows wd m) (nx : H x = none) (ndx : H dx = none) (xdx : dx ≠ x) (good : ∀ H', Same H H' → Mo K H' x rows m → W H') :
    spMon K [.ref x, .ref r] (L2.upd (L2.upd H dx (.own x)) x (.ins (He.ga K "Monoid") dx [])) (fun v H2 => v = .non ∧ W H2) E := by
  have u1 := same_upd (o := .own x) ndx
  have nx1 : L2.upd H dx (.own x) x = none := by rw [upd_ne (Ne.symm xdx)]; exact nx
  have u2 := u1.trans (same_upd (o := .ins (He.ga K "Monoid") dx []) nx1)
  exact ⟨x, r, dx, rows, wd, m, rfl, upd_same, R.same u2, accept_md A, fun H3 b3 mo => ⟨rfl, good H3 (fun b o e => b3 _ _ (ne_of_none e nx) (u2 _ _ e)) mo⟩⟩
/-- a dict from a list with its places -/
theorem dc_enumL {K : PySem.W.Frag} {a : Addr} {xs : List V} {g : TG} {tt : TT} {tk tv : TE} {vs : List Nat} {σ : L2.St} {H1 : Hp} {D : Addr} {Qd : Hp → Prop} (Pv : Nat → Hp → Prop) (h0 : Pv 0 (upd H1 D (.dK []))) (hl : ∀ i H, i ≤ xs.length → Pv i H → SqL K H a xs)
    (hs : ∀ i y H, xs[i]? = some y → Pv i H → ∀ T, H T = none → g (.ref T) (wipe σ vs) (upd H T (.tup [.int (i : Nat), y])) fun σ2 H2 => wipe σ2 vs = wipe σ vs ∧ tt σ2 H2 fun b H3 =>
      if b = true then tk σ2 H3 fun y H4 => tv σ2 H4 fun z H5 => ∃ kvs k, y = kV k ∧ H5 D = some (.dK kvs) ∧ kvs.length < sizeLine ∧ Pv (i + 1) (upd H5 D (.dK (putK kvs k z))) else Pv (i + 1) H3) (hd : ∀ H, Pv xs.length H → Qd H) :
    ∃ W : Nat → Nat → Hp → Prop, (∃ m, W 0 m (upd H1 D (.dK []))) ∧ ∀ i m H, W i m H →
      ((Ite K a).stop i H ∧ Qd H) ∨ ((Ite K a).go i H ∧ ∃ Nx : Hp → Prop, (∀ H', Nx H' → ∃ m', m' < m ∧ W (i + 1) m' H') ∧ ∀ x H', (Ite K a).yld i H x H' → g x (wipe σ vs) H' fun σ2 H2 => wipe σ2 vs = wipe σ vs ∧ tt σ2 H2 fun b H3 =>
        if b = true then tk σ2 H3 fun y H4 => tv σ2 H4 fun z H5 => ∃ kvs k, y = kV k ∧ H5 D = some (.dK kvs) ∧ kvs.length < sizeLine ∧ Nx (upd H5 D (.dK (putK kvs k z))) else Nx H3) := by
  have w := walk_enumL (K := K) (a := a) (xs := xs)
  refine ⟨fun i m H => m = xs.length - i ∧ i ≤ xs.length ∧ Pv i H, ⟨xs.length, by simp, Nat.zero_le _, h0⟩, ?_⟩
  rintro i m H ⟨rfl, hi, p⟩
  have q := hl i H hi p
  by_cases hlt : i < xs.length
  · refine .inr ⟨w.goes i H hlt q, Pv (i + 1), fun H' p' => ⟨xs.length - (i + 1), by omega, rfl, hlt, p'⟩, fun x H' yy => ?_⟩
    obtain ⟨T, y, rfl, nT, rfl, hy⟩ := w.yields i H x H' hlt q yy
    exact hs i y H hy p T nT
  · have e : i = xs.length := by omega
    subst e
    exact .inl ⟨w.stops H q, hd H p⟩
abbrev NNb : List Str := ["right", "first", "order", "places", "place", "number", "entry"]
/-- the scope of the comprehension over the order -/
def scMid : Scope := { kind := .function, names := [(".0", .local), ("number", .local), ("places", .cell), ("right", .cell)], isGenerator := false, isCoroutine := false }
abbrev teEnt : TE := tDGet (tVar 3) (tVar 6)
abbrev teRowN (K : PySem.W.Frag) : TE := tLc (iTup K (tOp (rIxT K) (tVar 0) (tVar 5))) (gName 6) tYes teEnt [6]
def spNumb (K : PySem.W.Frag) : Sp := fun vs H Q _ => ∃ r rows wd m, vs = [.ref r, .int ((0 : Nat) : Int)] ∧ RowsT K H r rows ∧ Form rows wd ∧ Ass.Md (Reach.renum rows 0) wd m ∧ ∀ p H', H p = none → Same H H' → Mo K H' p (Reach.renum rows 0) m → Q (.ref p) H'
section
variable {P : Program} {w : World} {K : PySem.W.Frag} {mg : Str → Option Value} {base : Heap}
theorem scNumb : FnScope NNb ["right", "first"] (defScope s_numbered) := ⟨rfl, rfl, rfl, by decide +kernel, rfl, by decide +kernel, by decide +kernel⟩
theorem ok_numb {f : Addr} {fd : FuncData} {q : Str} (F : FunD K "numbered" q (defArgs s_numbered) (defBody s_numbered) (defScope s_numbered) [] [] f fd) (T : Txt P w K mg base)
    (DF : Def P w K mg base CX0 3 "_check_form" ["right"] (spFormT K)) (DB : Def P w K mg base CX0 2 "is_between" ["thing", "least", "most"] spBtw) (DR : Def P w K mg base CX0 2 "reached_from" ["rows", "first"] (spReach K))
    {fm : Addr} {fdm : FuncData} (mM : Mk K (He.ga K "Monoid") fm) (FM : FnOk P w K mg base CX0 4 fm fdm ["self", "right"] (spMon K)) (bM : Binds K fdm ["self", "right"] []) :
    FnOk P w K mg base CX0 6 f fd ["right", "first"] (spNumb K) := by
  have zE : mg "enumerate" = none := T.fr 39 "enumerate" rfl
  have zn : mg "len" = none := T.fr 42 "len" rfl
  refine F.ok scNumb (fun vs H Q E h => ?_) (fun cdv A outer s H vs Q E hr h => ?_)
  · obtain ⟨r, rows, wd, m, rfl, _⟩ := h
    rfl
  · obtain ⟨r, rows, wd, m, rfl, R, FO, ac, out⟩ := h
    have hu : (A.deeper (envOfC q (defScope s_numbered) s.heap.objs.size f cdv)).units + 1 < cLine := by have := hr.units; omega
    have r2 : Room 2 _ := hr.mono (by decide)
    have r3 : Room 3 _ := hr.mono (by decide)
    refine ⟨_, PSs.nox (pss_cons (ps_expr (pe_def DF r3 pass0 rfl (pa_cons (pv 0) pa_nil)))
      (pss_cons (ps_if (pt_not (pt_val (pe_def DB r2 pass0 rfl (pa_cons (pv 1) (pa_cons pe_int (pa_cons (pe_op op_sub (pe_callB call_len_seq rfl zn boot_len (pa_cons (pv 0) pa_nil)) pe_int) pa_nil)))))) (pss_one ps_never) pss_nil)
      (pss_cons (ps_set (i := 2) scNumb.nd rfl (.inl rfl) (pe_def DR r2 pass0 rfl (pa_cons (pv 0) (pa_cons (pv 1) pa_nil))))
      (pss_cons (ps_set (i := 3) scNumb.nd rfl (.inr rfl) (pe_dc (own := [("place", 4), ("number", 5)]) (g := gTup K 2 (gCons (gName 4) (gCons (gName 5) gNil))) (tk := tVar 5) (tv := tVar 4) rfl scNumb.nd (pi_enumA rfl zE (pv 2)) (blkOk_by (own := [("place", 4), ("number", 5)]) (N := NNb) (sc := defScope s_numbered) (by decide +kernel))
          (fun _ _ _ _ _ => pg_tup rfl (pgs_cons (pg_name (i := 4) scNumb.nd rfl (Or.inl rfl)) (pgs_cons (pg_name (i := 5) scNumb.nd rfl (Or.inl rfl)) pgs_nil))) (fun _ _ _ _ _ => pts_nil) (fun _ _ _ _ _ => pv 5) (fun _ _ _ _ _ => pv 4)))
      (pss_one (ps_ret (pe_make mM FM hr rfl (T.gl 4 "Monoid" rfl) bM .nil pass0 (pa_cons (pe_lc (own := [("number", 5)]) (g := gName 5) (te := teRowN K) (by rfl) scNumb.nd (pi_list (pv 2)) (blkOk_by (own := [("number", 5)]) (N := NNb) (sc := defScope s_numbered) (by decide +kernel)) (fun _ _ _ _ _ => pg_name (i := 5) scNumb.nd rfl (Or.inl rfl)) (fun _ _ _ _ _ => pts_nil)
          (fun _ _ _ _ _ => by
            refine pe_lc (own := [("entry", 6)]) (g := gName 6) (te := teEnt) (by rfl) scNumb.nd (pi_tup (pe_ix ix_tup (pv 0) (pv 5) (fun _ _ => rfl))) (blkOk_by (own := [("entry", 6)]) (N := NNb) (sc := scMid) (by decide +kernel)) (fun _ _ _ _ _ => ?_) (fun _ _ _ _ _ => pts_nil) (fun _ _ _ _ _ => ?_)
            · exact pg_name (i := 6) scNumb.nd rfl (Or.inl rfl)
            · exact pe_dget hu (pv 3) (pv 6) (fun _ _ => rfl))) pa_nil)))))))), ?_⟩
    obtain ⟨as, sr, la, srow⟩ := R.ex
    have n2000 := FO.2.1
    have n1 := FO.1
    have RF : Reach.Rf rows 0 := ⟨by omega, fun row hr e he => (FO.2.2.2.2 row hr).2 e he⟩
    refine ⟨_, rfl, r, rows, wd, rfl, R, FO, fun H1 s1 => ?_⟩
    refine ⟨_, rfl, _, rfl, r, as.map V.ref, rfl, .inr (Lf.SqT.same s1 sr), _, 1, rfl, rfl, .int ((0 : Nat) : Int), 0, _, rfl, True.intro, _, rfl, ?_⟩
    rw [List.length_map, la, btw_nv (show 0 < rows.length by omega)]
    refine ifF rfl ?_
    have ol := Reach.ord_len RF
    have nd := Reach.ord_nd (rows := rows) (f := 0)
    refine ⟨_, rfl, _, rfl, r, 0, rows, rfl, R.same s1, RF, n2000, fun p H2 np s2 hp => ?_⟩
    generalize hO : Reach.ord rows 0 = O at ol nd hp
    have s12 := s1.trans s2
    refine ⟨_, rfl, p, _, rfl, .inl ⟨SqL.of hp, fun D nD => ?_⟩⟩
    have nDp : D ≠ p := fun z => by rw [z, hp] at nD; cases nD
    refine dc_enumL (K := K) (a := p) (xs := O.map nv) (fun i Hc => But D H2 Hc ∧ Hc D = some (.dK (idT (O.take i)))) ⟨But.upd, upd_same⟩ (fun i Hc _ ⟨bc, _⟩ => SqL.of (bc _ _ nDp.symm hp)) (fun i y Hc hy ⟨bc, hD⟩ T nT => ?_) (fun Hc ⟨bc, hD⟩ => ?_)
    · obtain ⟨x, hx, rfl⟩ := map_get hy
      refine ⟨T, _, rfl, SqT.of upd_same, rfl, _, _, rfl, _, _, rfl, rfl, rfl, yesT ?_⟩
      have nTD : T ≠ D := fun z => by rw [z, hD] at nT; cases nT
      have ln : (O.take i).length = i := by rw [List.length_take]; have := get_lt hx; omega
      have new : x ∉ O.take i := fun h => by
        obtain ⟨k, hk⟩ := List.getElem?_of_mem h
        have kl := get_lt hk
        rw [List.getElem?_take_of_lt (by omega)] at hk
        have := Mon.nodup_at nd hk hx
        omega
      refine ⟨_, rfl, _, rfl, idT (O.take i), ik x, rfl, by rw [upd_ne nTD.symm]; exact hD, by rw [idF_len, ln]; have := get_lt hx; show i < 16777216; omega, ?_, ?_⟩
      · refine But.trans (fun b o nb e => ?_) But.upd
        have e' := bc b o nb e
        rw [upd_ne (ne_of_none e' nT)]
        exact e'
      · have z := idT_put new
        rw [ln] at z
        rw [upd_same, take_snoc hx, ← z]
    rw [List.length_map, List.take_length] at hD
    have s3 : Same H Hc := fun b o e => bc b o (ne_of_none (s12 b o e) nD) (s12 b o e)
    have hp3 := bc _ _ nDp.symm hp
    clear bc hp s2 s12 nD
    have dg : ∀ {H' : Hp} {x : Nat}, H' D = some (.dK (idT O)) → x ∈ O → DGet H' D (.int (x : Nat)) (some (nv (Reach.idx O x))) := fun {H' x} h hx => by
      have z := DGet.k (k := ik x) h
      rw [idF_some (k := 0) nd (Reach.idx_get hx), Nat.zero_add] at z
      exact z
    refine ⟨_, rfl, p, rfl, ⟨_, SqL.of hp3⟩, fun L nL => ?_⟩
    have nLp : L ≠ p := fun z => by rw [z, hp3] at nL; cases nL
    have nLD : L ≠ D := fun z => by rw [z, hD] at nL; cases nL
    refine lc_list (K := K) (a := p) (xs := O.map nv) (fun i Hd => But L Hc Hd ∧ ∃ us : List Addr, us.length = i ∧ Hd L = some (.lst (us.map V.ref)) ∧ ∀ (j : Nat) u row, us[j]? = some u → (Reach.renum rows 0)[j]? = some row → u ≠ L ∧ Hd u = some (.lst (row.map nv)))
      ⟨But.upd, [], rfl, upd_same, fun j u row h => by simp at h⟩ (fun i Hd _ ⟨bd, _⟩ => SqL.of (bd _ _ nLp.symm hp3)) (fun i z Hd hz ⟨bd, us, lu, hL, pu⟩ => ?_) (fun Hd ⟨bd, us, lu, hL, pu⟩ => ?_)
    · obtain ⟨x, hx, rfl⟩ := map_get hz
      have il := get_lt hx
      refine ⟨rfl, yesT ?_⟩
      have xl : x < rows.length := Reach.known_lt RF (by have := List.mem_of_getElem? hx; rw [← hO] at this; exact this)
      obtain ⟨row, hrow⟩ := lt_get xl
      obtain ⟨b, hb⟩ := lt_get (show x < as.length by omega)
      have sb := srow x b row hb hrow
      have sd : Same H Hd := fun b o e => bd b o (ne_of_none (s3 b o e) nL) (s3 b o e)
      have hDd := bd _ _ nLD.symm hD
      have eR : (Reach.renum rows 0)[i]? = some (row.map (Reach.idx O)) := by
        unfold Reach.renum
        rw [hO, List.getElem?_map, hx]
        show some (List.map _ (rows.getD x [])) = _
        rw [Mon.getD_of hrow]
      have inO : ∀ y ∈ row, y ∈ O := fun y hy => by
        rw [← hO] at hx ⊢
        exact Reach.row_ord RF hx (by rw [Mon.getD_of hrow]; exact hy)
      refine ⟨_, rfl, _, rfl, r, as.map V.ref, _, .ref b, rfl, rfl, Lf.SqT.same sd sr, atI_nat (get_map hb), b, rfl, ⟨_, Lf.SqT.same sd sb⟩, fun M nM => ?_⟩
      have nMD : M ≠ D := fun z => by rw [z, hDd] at nM; cases nM
      have nML : M ≠ L := fun z => by rw [z, hL] at nM; cases nM
      refine lc_tup (K := K) (a := b) (xs := row.map nv) (fun j He => But M Hd He ∧ He M = some (.lst (((row.take j).map (Reach.idx O)).map nv))) ⟨But.upd, upd_same⟩ (fun j He _ ⟨be, _⟩ => Lf.SqT.same (fun b o e => be b o (ne_of_none (sd b o e) nM) (sd b o e)) sb) (fun j z He hz ⟨be, hM⟩ => ?_) (fun He ⟨be, hM⟩ => ?_)
      · obtain ⟨y, hy, rfl⟩ := map_get hz
        refine ⟨rfl, yesT ?_⟩
        refine ⟨_, rfl, _, rfl, D, _, rfl, dg (be _ _ nMD.symm hDd) (inO y (List.mem_of_getElem? hy)), _, hM, ?_, But.trans be But.upd, ?_⟩
        · rw [List.length_map, List.length_map, List.length_take]
          have := get_lt hy
          have := (FO.2.2.2.2 row (List.mem_of_getElem? hrow)).1
          have := FO.2.2.2.1
          show min j row.length < 16777216
          omega
        · rw [upd_same, take_snoc hy, List.map_append, List.map_append]
          rfl
      · rw [List.length_map, List.take_length] at hM
        have hL' := be _ _ nML.symm hL
        refine ⟨_, hL', by rw [List.length_map, lu]; show i < 16777216; have := FO.2.1; omega, But.trans (fun b o nb e => be b o (ne_of_none (bd b o nb e) nM) (bd b o nb e)) But.upd, us ++ [M], by rw [List.length_append, lu]; rfl, by rw [upd_same, List.map_append]; rfl, fun j u rw' h1 h2 => ?_⟩
        by_cases hj : j < us.length
        · rw [List.getElem?_append_left hj] at h1
          obtain ⟨nu, hu1⟩ := pu j u rw' h1 h2
          rw [upd_ne nu]
          exact ⟨nu, be _ _ (ne_of_none hu1 nM) hu1⟩
        · have hj2 : j = us.length := by
            have := get_lt h1
            rw [List.length_append, List.length_singleton] at this
            omega
          rw [hj2, List.getElem?_append_right (Nat.le_refl _), Nat.sub_self] at h1
          cases h1
          rw [hj2, lu, eR] at h2
          cases h2
          rw [upd_ne nML]
          exact ⟨nML, hM⟩
    · rw [List.length_map] at lu
      intro x dx nx ndx xdx
      have R2 : RowsL K Hd L (Reach.renum rows 0) := ⟨us, SqL.of hL, by rw [lu, Reach.renum_len, hO], fun j u row h1 h2 => SqL.of (pu j u row h1 h2).2⟩
      have sd : Same H Hd := fun b o e => bd b o (ne_of_none (s3 b o e) nL) (s3 b o e)
      exact mk_mon R2 ac nx ndx xdx fun H' s' mo => out _ _ (nil_of sd nx) (sd.trans s') mo
end
end K16

set_option Elab.async false
set_option linter.all false
set_option maxRecDepth 100000
set_option maxHeartbeats 8000000
namespace K16
open PySem PySem.Spec PyProof.Rows L2 Lf
/-- a method of Monoid -/
structure DefM (P : Program) (w : World) (K : PySem.W.Frag) (mg : Str → Option Value) (base : Heap) (CX : CXT) (k : Nat) (m : Str) (ps : List Str) (sp : Sp) : Prop where
  ex : ∃ f fd, Meth K (He.ga K "Monoid") m f ∧ FnOk P w K mg base CX k f fd ps sp ∧ Binds K fd ps []
def spSize (K : PySem.W.Frag) : Sp := fun vs H Q _ => ∃ p rows m, vs = [.ref p] ∧ Mo K H p rows m ∧ Q (.int (rows.length : Nat)) H
theorem flat_rep {n : Nat} : (List.replicate n [V.int 0]).flatten = (List.replicate n 0).map nv := by
  induction n with
  | zero => rfl
  | succ n ih => rw [List.replicate_succ, List.replicate_succ, List.flatten_cons, ih]; rfl
/-- o[i], i from the front -/
def rGetN (K : PySem.W.Frag) : V → V → Hp → VK → Prop := fun o i H Q => ∃ (p : Addr) (xs : List V) (j : Nat) (v : V), o = .ref p ∧ i = .int (j : Nat) ∧ SqL K H p xs ∧ xs[j]? = some v ∧ Q v H
theorem get_listN {X : Cx} : PGet X (rGetN X.K) := by
  intro pins s σ H o i ov iv Q I ro ri h
  obtain ⟨p, xs, j, v, rfl, rfl, hq, hv, q⟩ := h
  cases ro
  obtain ⟨t, rfl⟩ := ri
  obtain ⟨its, r, pl, hz⟩ := I.list hq
  obtain ⟨w, ew, rw'⟩ := r.get hv
  have lj := (List.getElem?_eq_some_iff.mp hv).1
  have z : sizeLine = 16777216 := sizeLine_eq
  exact wpAny_getItem_list pl.isList (by omega) (by omega) (by rw [show ((j : Nat) : Int).toNat = j by omega]; simpa using ew) ⟨v, H, I, rw', q⟩
theorem bump_nv {f : List Nat} {t many : Nat} : (f.map nv).set t (.int ((f.getD t 0 : Nat) + (many : Nat) : Int)) = (Mon.bump f t many).map nv := by
  unfold Mon.bump
  rw [List.map_set]
  rfl
theorem ixn {n j : Nat} (h : j < n) : ixN n (j : Nat) = some j := by
  unfold ixN
  rw [if_pos (by omega), if_pos (by omega)]
  rfl
theorem stepF_app {r2 : List (List Nat)} {c2 : List Nat} : ∀ {r1 : List (List Nat)} {c1 f : List Nat}, r1.length = c1.length → Mon.stepF f (r1 ++ r2) (c1 ++ c2) = Mon.stepF (Mon.stepF f r1 c1) r2 c2
  | [], [], f, _ => rfl
  | [], _ :: _, _, h => by simp at h
  | _ :: _, [], _, h => by simp at h
  | r :: r1, c :: c1, f, h => by
    show Mon.stepF (Mon.rowBump f r c) (r1 ++ r2) (c1 ++ c2) = Mon.stepF (Mon.stepF (Mon.rowBump f r c) r1 c1) r2 c2
    exact stepF_app (by simpa using h)
theorem stepF_snoc {rows : List (List Nat)} {cs f : List Nat} {j c : Nat} {row : List Nat} (h1 : rows[j]? = some row) (h2 : cs[j]? = some c) : Mon.stepF f (rows.take (j + 1)) (cs.take (j + 1)) = Mon.rowBump (Mon.stepF f (rows.take j) (cs.take j)) row c := by
  rw [take_snoc h1, take_snoc h2, stepF_app (by rw [List.length_take, List.length_take]; have := get_lt h1; have := get_lt h2; omega)]
  rfl
theorem rowBump_snoc {f row : List Nat} {c k t : Nat} (h : row[k]? = some t) : Mon.rowBump f (row.take (k + 1)) c = Mon.bump (Mon.rowBump f (row.take k) c) t c := by
  rw [take_snoc h]
  unfold Mon.rowBump
  rw [List.foldl_append]
  rfl
theorem dp_pos {rows : List (List Nat)} : ∀ {t : Nat}, (Mon.dp rows t).length = rows.length := fun {t} => Mon.dp_len
section
variable {P : Program} {w : World} {K : PySem.W.Frag} {mg : Str → Option Value} {base : Heap}
theorem scSize : FnScope ["self"] ["self"] (defScope s_Monoid_size) := ⟨rfl, rfl, rfl, by decide +kernel, rfl, by decide +kernel, by decide +kernel⟩
theorem ok_size {f : Addr} {fd : FuncData} {q : Str} (F : FunD K "size" q (defArgs s_Monoid_size) (defBody s_Monoid_size) (defScope s_Monoid_size) [] [] f fd) (T : Txt P w K mg base) :
    FnOk P w K mg base CX0 1 f fd ["self"] (spSize K) := by
  have cl : L2.Cls K (He.ga K "Monoid") := He.cls_ok (T.d.fact 49 (f := .cls "Monoid") rfl)
  have n1 : NoAttr K (He.ga K "Monoid") "right" := He.noat_ok (T.d.fact 65 (f := .noat "Monoid" "right") rfl)
  have zn : mg "len" = none := T.fr 42 "len" rfl
  refine F.ok scSize (fun vs H Q E h => ?_) (fun cdv A outer s H vs Q E hr h => ?_)
  · obtain ⟨p, rows, m, rfl, _⟩ := h
    rfl
  · obtain ⟨p, rows, m, rfl, M, k⟩ := h
    obtain ⟨dx, t, u, v, hp, R, _, _⟩ := M.ex
    obtain ⟨as, sr, la, _⟩ := R.ex
    refine ⟨_, PSs.nox (pss_one (ps_ret (pe_callB call_len_seq rfl zn boot_len (pa_cons (pe_fld (pv 0) rfl) pa_nil)))), ?_⟩
    refine ⟨_, rfl, p, _, dx, _, _, rfl, hp, cl, n1, rfl, t, as.map V.ref, rfl, .inr sr, ?_⟩
    rw [List.length_map, la]
    exact k
end
end K16

set_option Elab.async false
set_option linter.all false
set_option maxRecDepth 100000
set_option maxHeartbeats 8000000
namespace K16
open PySem PySem.Spec PyProof.Rows L2 Lf
def spLettersOf (K : PySem.W.Frag) : Sp := fun vs H Q _ => ∃ u m n, vs = [.ref u, .int (n : Nat)] ∧ MadeT K H u m ∧ (∀ (k : Nat) p, m[k]? = some p → p.1 < k + 1) ∧ n < m.length + 1 ∧ m.length ≤ 2000 ∧
  ∀ l H', Same H H' → H l = none → H' l = some (.lst (((Mon.wordTab m).getD n []).map nv)) → Q (.ref l) H'
def spEnd (K : PySem.W.Frag) : Sp := fun vs H Q _ => ∃ r l rows wd s w, vs = [.ref r, .int (s : Nat), .ref l] ∧ RowsT K H r rows ∧ Form rows wd ∧ s < rows.length ∧ SqL K H l (w.map nv) ∧ (∀ c ∈ w, c < wd) ∧ Q (.int (Mon.walk rows s w : Nat)) H
section
variable {P : Program} {w : World} {K : PySem.W.Frag} {mg : Str → Option Value} {base : Heap}
theorem scEnd : FnScope ["right", "start", "letters", "number", "letter"] ["right", "start", "letters"] (defScope s_end) := ⟨rfl, rfl, rfl, by decide +kernel, rfl, by decide +kernel, by decide +kernel⟩
theorem ok_end {f : Addr} {fd : FuncData} {q : Str} (F : FunD K "_end" q (defArgs s_end) (defBody s_end) (defScope s_end) [] [] f fd) : FnOk P w K mg base CX0 1 f fd ["right", "start", "letters"] (spEnd K) := by
  refine F.ok scEnd (fun vs H Q E h => ?_) (fun cdv A outer s H vs Q E hr h => ?_)
  · obtain ⟨r, l, rows, wd, s0, wl, rfl, _⟩ := h
    rfl
  · obtain ⟨r, l, rows, wd, s0, wl, rfl, R, FO, hs, sl, hw, k⟩ := h
    obtain ⟨as, sr, la, srow⟩ := R.ex
    obtain ⟨f1, f2, f3, f4, f5⟩ := FO
    refine ⟨_, PSs.nox (pss_cons (ps_set (i := 3) scEnd.nd rfl (.inl rfl) (pv 1))
      (pss_cons (ps_for PassesOwn.never rfl (pi_list (pv 2)) (pg_name (i := 4) scEnd.nd rfl (.inl rfl))
        (pss_one (ps_set (i := 3) scEnd.nd rfl (.inl rfl) (pe_ix ix_tup (pe_ix ix_tup (pv 0) (pv 3) (fun _ _ => rfl)) (pv 4) (fun _ _ => rfl)))))
      (pss_one (ps_ret (pv 3))))), ?_⟩
    refine ⟨_, rfl, _, rfl, l, rfl, ⟨_, sl⟩, for_list (K := K) (a := l) (xs := wl.map nv) (fun i σ Hn => ∃ v4 : Option V, σ = [some (.ref r), some (.int (s0 : Nat)), some (.ref l), some (.int (Mon.walk rows s0 (wl.take i) : Nat)), v4] ∧ Hn = H ∧ Mon.walk rows s0 (wl.take i) < rows.length)
      ⟨none, rfl, rfl, hs⟩ (fun i σ Hn _ ⟨_, _, e, _⟩ => by rw [e]; exact sl) (fun i x σ Hn hx ⟨v4, eσ, eH, lt⟩ => ?_) (fun σ Hn ⟨v4, eσ, eH, lt⟩ => ?_)⟩
    · subst eσ eH
      obtain ⟨c, hc, rfl⟩ := map_get hx
      have cw := hw c (List.mem_of_getElem? hc)
      have e : Mon.walk rows s0 (wl.take (i + 1)) = (rows.getD (Mon.walk rows s0 (wl.take i)) []).getD c 0 := by
        rw [take_snoc hc, Mon.walk_app]
        rfl
      rw [e]
      generalize Mon.walk rows s0 (wl.take i) = s1 at lt ⊢
      obtain ⟨a, ha⟩ := lt_get (show s1 < as.length by omega)
      obtain ⟨row, hrow⟩ := lt_get lt
      obtain ⟨l1, l2⟩ := f5 row (List.mem_of_getElem? hrow)
      obtain ⟨t, ht⟩ := lt_get (show c < row.length by omega)
      rw [Mon.getD_of hrow, Mon.getD_of ht]
      refine ⟨_, rfl, _, rfl, r, as.map V.ref, _, .ref a, rfl, rfl, sr, atI_nat (get_map ha), _, rfl, a, row.map nv, _, nv t, rfl, rfl, srow s1 a row ha hrow, atI_nat (get_map ht), _, rfl, rfl, l2 t (List.mem_of_getElem? ht)⟩
    · subst eσ eH
      rw [List.length_map, List.take_length]
      exact ⟨_, rfl, k⟩
theorem scLet : FnScope ["made", "number", "letters", "letter"] ["made", "number"] (defScope s_letters_of) := ⟨rfl, rfl, rfl, by decide +kernel, rfl, by decide +kernel, by decide +kernel⟩
theorem ok_letters {f : Addr} {fd : FuncData} {q : Str} (F : FunD K "_letters_of" q (defArgs s_letters_of) (defBody s_letters_of) (defScope s_letters_of) [] [] f fd) : FnOk P w K mg base CX0 1 f fd ["made", "number"] (spLettersOf K) := by
  refine F.ok scLet (fun vs H Q E h => ?_) (fun cdv A outer s H vs Q E hr h => ?_)
  · obtain ⟨u, m, n, rfl, _⟩ := h
    rfl
  · obtain ⟨u, m, n, rfl, MM, hlt, hn, m2, k⟩ := h
    obtain ⟨ps, sm, lp, sp⟩ := MM.ex
    refine ⟨_, PSs.nox (pss_cons (ps_set (i := 2) scLet.nd rfl (.inl rfl) (pe_lst pa_nil))
      (pss_cons (ps_while PassesOwn.never (pt_cmpR op_gt (pv 1) pe_int (nomark _))
        (pss_cons (ps_asg (pe_ix ix_tup (pv 0) (pv 1) (fun _ _ => rfl)) (pg_tup rfl (pgs_cons (pg_name (i := 1) scLet.nd rfl (.inl rfl)) (pgs_cons (pg_name (i := 3) scLet.nd rfl (.inl rfl)) pgs_nil))))
        (pss_one (ps_expr (pe_bm PySem.F.plainAttrs_list PySem.F.slot_list_append PySem.F.type_list_append mt_append (pv 2) (pa_cons (pv 3) pa_nil))))))
      (pss_one (ps_ret (pe_revL (pv 2)))))), ?_⟩
    refine ⟨(by show 0 ≤ sizeLine; decide), fun B nB => ?_⟩
    have s1 := same_upd (o := .lst []) nB
    have hB : L2.upd H B (.lst []) B = some (.lst (([] : List Nat).map nv)) := upd_same
    generalize L2.upd H B (.lst []) = H1 at s1 hB ⊢
    refine ⟨fun i σ Hn => ∃ (v3 : Option V) (acc : List Nat), σ = [some (.ref u), some (.int (i : Nat)), some (.ref B), v3] ∧ Same H Hn ∧ Hn B = some (.lst (acc.map nv)) ∧ i < m.length + 1 ∧ acc.length + i ≤ n ∧ (Mon.wordTab m).getD n [] = (Mon.wordTab m).getD i [] ++ acc.reverse,
      ⟨n, none, [], rfl, s1, hB, hn, by simp, by simp⟩, ?_⟩
    rintro i σ Hn ⟨v3, acc, rfl, sn, hBn, il, ln, ew⟩
    refine ⟨_, rfl, _, 0, rfl, rfl, _, rfl, ?_⟩
    by_cases i0 : i = 0
    · subst i0
      rw [show decide ((0 : Int) < ((0 : Nat) : Int)) = false by decide]
      refine ifF rfl ?_
      refine ⟨_, rfl, B, _, rfl, SqL.of hBn, fun l nl => ?_⟩
      have nl0 : H l = none := by
        cases e : H l with
        | none => rfl
        | some o => rw [sn _ _ e] at nl; cases nl
      refine k l _ (sn.trans (same_upd nl)) nl0 ?_
      rw [upd_same, ew, Mon.word_0, List.nil_append, List.map_reverse]
    · obtain ⟨j, rfl⟩ : ∃ j, i = j + 1 := ⟨i - 1, by omega⟩
      rw [show decide ((0 : Int) < ((j + 1 : Nat) : Int)) = true from decide_eq_true (by omega)]
      refine ifT rfl ?_
      obtain ⟨pr, hpr⟩ := lt_get (show j < m.length by omega)
      obtain ⟨pa, hpa⟩ := lt_get (show j < ps.length by omega)
      have b1 := hlt j pr hpr
      have hat : (V.non :: ps.map V.ref)[j + 1]? = some (.ref pa) := by
        rw [List.getElem?_cons_succ]
        exact get_map hpa
      refine ⟨fun σ' H' => ∃ i', i' < j + 1 ∧ ∃ (v3 : Option V) (acc : List Nat), σ' = [some (.ref u), some (.int (i' : Nat)), some (.ref B), v3] ∧ Same H H' ∧ H' B = some (.lst (acc.map nv)) ∧ i' < m.length + 1 ∧ acc.length + i' ≤ n ∧ (Mon.wordTab m).getD n [] = (Mon.wordTab m).getD i' [] ++ acc.reverse, fun σ' H' z => z, ?_⟩
      refine ⟨_, rfl, _, rfl, u, _, _, .ref pa, rfl, rfl, Lf.SqT.same sn sm, atI_nat hat, pa, _, rfl, Lf.SqT.same sn (sp j pa pr hpa hpr), rfl, _, _, rfl, _, _, rfl, rfl, ?_⟩
      refine ⟨_, rfl, .inl ⟨rfl, _, SqL.of hBn⟩, _, rfl, B, _, _, rfl, rfl, hBn, by rw [List.length_map]; show acc.length < 16777216; omega, pr.1, b1, _, acc ++ [pr.2], rfl, fun b o e => ?_, by rw [upd_same, List.map_append]; rfl, by omega, by rw [List.length_append, List.length_singleton]; omega, ?_⟩
      · rw [upd_ne (ne_of_none e nB)]
        exact sn b o e
      · rw [ew, Mon.word_at hlt hpr, List.reverse_append, List.append_assoc]
        rfl
end
end K16

set_option Elab.async false
set_option linter.all false
set_option maxRecDepth 100000
set_option maxHeartbeats 8000000
namespace K16
open PySem PySem.Spec PyProof.Rows L2 Lf
def spCkN (K : PySem.W.Frag) : Sp := fun vs H Q _ => ∃ p rows m n, vs = [.ref p, .int (n : Nat)] ∧ Mo K H p rows m ∧ n < rows.length ∧ Q .non H
def spLeftM (K : PySem.W.Frag) : Sp := fun vs H Q _ => ∃ p rows m, vs = [.ref p] ∧ Mo K H p rows m ∧ ∀ v, RowsT K H v (Mon.leftTab rows m) → Q (.ref v) H
def spTimes (K : PySem.W.Frag) : Sp := fun vs H Q _ => ∃ p rows m wd i j, vs = [.ref p, .int (i : Nat), .int (j : Nat)] ∧ Mo K H p rows m ∧ Form rows wd ∧ Mon.madeTab 0 rows [] = some m ∧ m.length + 1 = rows.length ∧ i < rows.length ∧ j < rows.length ∧
  ∀ H', Same H H' → Q (.int (Mon.walk rows i ((Mon.wordTab m).getD j []) : Nat)) H'
theorem word_lettersF {wd : Nat} : ∀ (m : List (Nat × Nat)) (L : List (List Nat)), (∀ p ∈ m, p.2 < wd) → (∀ w ∈ L, ∀ c ∈ w, c < wd) → ∀ w ∈ m.foldl Mon.wordStep L, ∀ c ∈ w, c < wd
  | [], L, _, h, w, hw => h w hw
  | p :: r, L, hm, h, w, hw => by
    refine word_lettersF r (Mon.wordStep L p) (fun q hq => hm q (List.mem_cons_of_mem _ hq)) (fun u hu c hc => ?_) w hw
    unfold Mon.wordStep at hu
    rcases List.mem_append.mp hu with g | g
    · exact h u g c hc
    · rw [List.mem_singleton.mp g] at hc
      rcases List.mem_append.mp hc with hc | hc
      · cases e : L[p.1]? with
        | none => rw [List.getD, e] at hc; cases hc
        | some v => rw [List.getD, e] at hc; exact h v (List.mem_of_getElem? e) c hc
      · rw [List.mem_singleton.mp hc]
        exact hm p List.mem_cons_self
/-- the letters of words are letters -/
theorem word_letters {rows : List (List Nat)} {wd : Nat} {m : List (Nat × Nat)} (FO : Form rows wd) (hm : Mon.madeTab 0 rows [] = some m) (j : Nat) : ∀ c ∈ (Mon.wordTab m).getD j [], c < wd := fun c hc => by
  have all : ∀ p ∈ m, p.2 < wd := fun p hp => by
    obtain ⟨k, hk⟩ := List.getElem?_of_mem hp
    obtain ⟨_, row, b, c⟩ := Mon.madeTab_lt hm hk
    have := (FO.2.2.2.2 row (List.mem_of_getElem? b)).1
    have := get_lt c
    omega
  cases e : (Mon.wordTab m)[j]? with
  | none => rw [List.getD, e] at hc; cases hc
  | some w =>
    rw [Mon.getD_of e] at hc
    exact word_lettersF m [[]] all (fun u hu d hd => by rw [List.mem_singleton.mp hu] at hd; cases hd) w (List.mem_of_getElem? e) c hc
section
variable {P : Program} {w : World} {K : PySem.W.Frag} {mg : Str → Option Value} {base : Heap}
theorem scCkN : FnScope ["self", "number"] ["self", "number"] (defScope s_Monoid_check_number) := ⟨rfl, rfl, rfl, by decide +kernel, rfl, by decide +kernel, by decide +kernel⟩
theorem ok_ckn {f : Addr} {fd : FuncData} {q : Str} (F : FunD K "_check_number" q (defArgs s_Monoid_check_number) (defBody s_Monoid_check_number) (defScope s_Monoid_check_number) [] [] f fd) (T : Txt P w K mg base)
    (DB : Def P w K mg base CX0 2 "is_between" ["thing", "least", "most"] spBtw) (DZ : DefM P w K mg base CX0 1 "size" ["self"] (spSize K)) : FnOk P w K mg base CX0 3 f fd ["self", "number"] (spCkN K) := by
  have cl : L2.Cls K (He.ga K "Monoid") := He.cls_ok (T.d.fact 49 (f := .cls "Monoid") rfl)
  obtain ⟨fz, fdz, mz, Fz, bz⟩ := DZ.ex
  refine F.ok scCkN (fun vs H Q E h => ?_) (fun cdv A outer s H vs Q E hr h => ?_)
  · obtain ⟨p, rows, m, n, rfl, _⟩ := h
    rfl
  · obtain ⟨p, rows, m, n, rfl, M, hn, k⟩ := h
    have r1 : Room 1 _ := hr.mono (by decide)
    obtain ⟨dx, _, _, _, hp, _⟩ := id M.ex
    refine ⟨_, PSs.nox (pss_one (ps_if (pt_not (pt_val (pe_def DB hr pass0 rfl (pa_cons (pv 1) (pa_cons pe_int (pa_cons (pe_op op_sub (pe_meth0 (pv 0) cl mz Fz r1 bz .nil pass0) pe_int) pa_nil)))))) (pss_one ps_never) pss_nil)), ?_⟩
    refine ⟨_, rfl, _, rfl, p, dx, _, rfl, hp, rfl, p, rows, m, rfl, M, _, 1, rfl, rfl, .int (n : Nat), 0, (rows.length : Int) - 1, rfl, True.intro, _, rfl, ?_⟩
    rw [show btw 0 ((rows.length : Int) - 1) (.int (n : Nat)) = true from btw_nv hn]
    exact ifF rfl k
theorem scLeftM : FnScope ["self"] ["self"] (defScope s_Monoid_left) := ⟨rfl, rfl, rfl, by decide +kernel, rfl, by decide +kernel, by decide +kernel⟩
theorem ok_leftM {f : Addr} {fd : FuncData} {q : Str} (F : FunD K "left" q (defArgs s_Monoid_left) (defBody s_Monoid_left) (defScope s_Monoid_left) [] [] f fd) (T : Txt P w K mg base) : FnOk P w K mg base CX0 1 f fd ["self"] (spLeftM K) := by
  have cl : L2.Cls K (He.ga K "Monoid") := He.cls_ok (T.d.fact 49 (f := .cls "Monoid") rfl)
  have n3 : NoAttr K (He.ga K "Monoid") "_left" := He.noat_ok (T.d.fact 67 (f := .noat "Monoid" "_left") rfl)
  refine F.ok scLeftM (fun vs H Q E h => ?_) (fun cdv A outer s H vs Q E hr h => ?_)
  · obtain ⟨p, rows, m, rfl, _⟩ := h
    rfl
  · obtain ⟨p, rows, m, rfl, M, k⟩ := h
    obtain ⟨dx, t, u, v, hp, R, MM, LL⟩ := id M.ex
    refine ⟨_, PSs.nox (pss_one (ps_ret (pe_fld (pv 0) rfl))), ?_⟩
    exact ⟨_, rfl, p, _, dx, _, _, rfl, hp, cl, n3, rfl, k v LL⟩
theorem scTimes : FnScope ["self", "one", "other"] ["self", "one", "other"] (defScope s_Monoid_times) := ⟨rfl, rfl, rfl, by decide +kernel, rfl, by decide +kernel, by decide +kernel⟩
theorem ok_times {f : Addr} {fd : FuncData} {q : Str} (F : FunD K "times" q (defArgs s_Monoid_times) (defBody s_Monoid_times) (defScope s_Monoid_times) [] [] f fd) (T : Txt P w K mg base)
    (DN : DefM P w K mg base CX0 3 "_check_number" ["self", "number"] (spCkN K)) (DE : Def P w K mg base CX0 1 "_end" ["right", "start", "letters"] (spEnd K)) (DL : Def P w K mg base CX0 1 "_letters_of" ["made", "number"] (spLettersOf K)) :
    FnOk P w K mg base CX0 4 f fd ["self", "one", "other"] (spTimes K) := by
  have cl : L2.Cls K (He.ga K "Monoid") := He.cls_ok (T.d.fact 49 (f := .cls "Monoid") rfl)
  have n1 : NoAttr K (He.ga K "Monoid") "right" := He.noat_ok (T.d.fact 65 (f := .noat "Monoid" "right") rfl)
  have n2 : NoAttr K (He.ga K "Monoid") "_made" := He.noat_ok (T.d.fact 66 (f := .noat "Monoid" "_made") rfl)
  obtain ⟨fn', fdn, mn, Fn, bn⟩ := DN.ex
  refine F.ok scTimes (fun vs H Q E h => ?_) (fun cdv A outer s H vs Q E hr h => ?_)
  · obtain ⟨p, rows, m, wd, i, j, rfl, _⟩ := h
    rfl
  · obtain ⟨p, rows, m, wd, i, j, rfl, M, FO, hm, lm, hi, hj, k⟩ := h
    have r1 : Room 1 _ := hr.mono (by decide)
    obtain ⟨dx, t, u, v, hp, R, MM, _⟩ := id M.ex
    have n2000 := FO.2.1
    refine ⟨_, PSs.nox (pss_cons (ps_expr (pe_meth (pv 0) cl mn Fn hr bn .nil pass0 (pa_cons (pv 1) pa_nil)))
      (pss_cons (ps_expr (pe_meth (pv 0) cl mn Fn hr bn .nil pass0 (pa_cons (pv 2) pa_nil)))
      (pss_one (ps_ret (pe_def DE r1 pass0 rfl (pa_cons (pe_fld (pv 0) rfl) (pa_cons (pv 1) (pa_cons (pe_def DL r1 pass0 rfl (pa_cons (pe_fld (pv 0) rfl) (pa_cons (pv 2) pa_nil))) pa_nil)))))))), ?_⟩
    refine ⟨_, rfl, p, dx, _, rfl, hp, rfl, _, rfl, p, rows, m, i, rfl, M, hi, ?_⟩
    refine ⟨_, rfl, p, dx, _, rfl, hp, rfl, _, rfl, p, rows, m, j, rfl, M, hj, ?_⟩
    refine ⟨_, rfl, p, _, dx, _, _, rfl, hp, cl, n1, rfl, _, rfl, _, rfl, p, _, dx, _, _, rfl, hp, cl, n2, rfl, _, rfl, u, m, j, rfl, MM, fun k' p' h' => (Mon.madeTab_lt hm h').1, by omega, by omega, fun l H1 s1 _ hl => ?_⟩
    exact ⟨t, l, rows, wd, i, _, rfl, R.same s1, FO, hi, SqL.of hl, word_letters FO hm j, k H1 s1⟩
end
end K16

set_option Elab.async false
set_option linter.all false
set_option maxRecDepth 100000
set_option maxHeartbeats 8000000
namespace K16
open PySem PySem.Spec PyProof.Rows L2 Lf
theorem left_form {rows : List (List Nat)} {wd : Nat} {m : List (Nat × Nat)} (M : Ass.Md rows wd m) : Form (Mon.leftTab rows m) wd := by
  obtain ⟨f1, f2, w1, w6, fr⟩ := M.F
  refine ⟨by rw [M.left_len]; exact f1, by rw [M.left_len]; exact f2, w1, w6, fun row hr => ?_⟩
  obtain ⟨k, hk⟩ := List.getElem?_of_mem hr
  rw [M.left_len]
  exact M.left_row hk
/-- numbers as the opposite has them -/
def tns (rows : List (List Nat)) (m : List (Nat × Nat)) : List Nat := (List.range rows.length).map (Ass.tn rows m)
def spOpp (K : PySem.W.Frag) : Sp := fun vs H Q _ => ∃ p rows wd m m', vs = [.ref p] ∧ Mo K H p rows m ∧ Ass.Md rows wd m ∧ Mon.madeTab 0 (Ass.opp rows m) [] = some m' ∧ ∀ q H', H q = none → Same H H' → Mo K H' q (Ass.opp rows m) m' → Q (.ref q) H'
def spTurned (K : PySem.W.Frag) : Sp := fun vs H Q _ => ∃ p rows wd m, vs = [.ref p] ∧ Mo K H p rows m ∧ Ass.Md rows wd m ∧ ∀ t H', Same H H' → H' t = some (.tup ((tns rows m).map nv)) → Q (.ref t) H'
abbrev NTu : List Str := ["self", "places", "place", "number"]
section
variable {P : Program} {w : World} {K : PySem.W.Frag} {mg : Str → Option Value} {base : Heap}
theorem scOpp : FnScope ["self"] ["self"] (defScope s_Monoid_opposite) := ⟨rfl, rfl, rfl, by decide +kernel, rfl, by decide +kernel, by decide +kernel⟩
theorem ok_opp {f : Addr} {fd : FuncData} {q : Str} (F : FunD K "opposite" q (defArgs s_Monoid_opposite) (defBody s_Monoid_opposite) (defScope s_Monoid_opposite) [] [] f fd) (T : Txt P w K mg base)
    (DN : Def P w K mg base CX0 6 "numbered" ["right", "first"] (spNumb K)) : FnOk P w K mg base CX0 7 f fd ["self"] (spOpp K) := by
  have cl : L2.Cls K (He.ga K "Monoid") := He.cls_ok (T.d.fact 49 (f := .cls "Monoid") rfl)
  have n3 : NoAttr K (He.ga K "Monoid") "_left" := He.noat_ok (T.d.fact 67 (f := .noat "Monoid" "_left") rfl)
  refine F.ok scOpp (fun vs H Q E h => ?_) (fun cdv A outer s H vs Q E hr h => ?_)
  · obtain ⟨p, rows, wd, m, m', rfl, _⟩ := h
    rfl
  · obtain ⟨p, rows, wd, m, m', rfl, mo, M, hm', k⟩ := h
    obtain ⟨dx, t, u, v, hp, R, MM, LL⟩ := id mo.ex
    refine ⟨_, PSs.nox (pss_one (ps_ret (pe_def DN hr pass0 rfl (pa_cons (pe_fld (pv 0) rfl) (pa_cons pe_int pa_nil))))), ?_⟩
    exact ⟨_, rfl, p, _, dx, _, _, rfl, hp, cl, n3, rfl, v, _, wd, m', rfl, LL, left_form M, M.opp hm', k⟩
theorem scTur : FnScope NTu ["self"] (defScope s_Monoid_turned) := ⟨rfl, rfl, rfl, by decide +kernel, rfl, by decide +kernel, by decide +kernel⟩
theorem ok_turned {f : Addr} {fd : FuncData} {q : Str} (F : FunD K "turned" q (defArgs s_Monoid_turned) (defBody s_Monoid_turned) (defScope s_Monoid_turned) [] [] f fd) (T : Txt P w K mg base)
    (DR : Def P w K mg base CX0 2 "reached_from" ["rows", "first"] (spReach K)) (DZ : DefM P w K mg base CX0 1 "size" ["self"] (spSize K)) : FnOk P w K mg base CX0 3 f fd ["self"] (spTurned K) := by
  have cl : L2.Cls K (He.ga K "Monoid") := He.cls_ok (T.d.fact 49 (f := .cls "Monoid") rfl)
  have n3 : NoAttr K (He.ga K "Monoid") "_left" := He.noat_ok (T.d.fact 67 (f := .noat "Monoid" "_left") rfl)
  have zE : mg "enumerate" = none := T.fr 39 "enumerate" rfl
  have zr : mg "range" = none := T.fr 44 "range" rfl
  have zt : mg "tuple" = none := T.fr 47 "tuple" rfl
  obtain ⟨fz, fdz, mz, Fz, bz⟩ := DZ.ex
  refine F.ok scTur (fun vs H Q E h => ?_) (fun cdv A outer s H vs Q E hr h => ?_)
  · obtain ⟨p, rows, wd, m, rfl, _⟩ := h
    rfl
  · obtain ⟨p, rows, wd, m, rfl, mo, M, k⟩ := h
    have hu : (A.deeper (envOfC q (defScope s_Monoid_turned) s.heap.objs.size f cdv)).units + 1 < cLine := by have := hr.units; omega
    have r1 : Room 1 _ := hr.mono (by decide)
    obtain ⟨dx, t, u, v, hp, R, MM, LL⟩ := id mo.ex
    refine ⟨_, PSs.nox (pss_cons (ps_set (i := 1) scTur.nd rfl (.inr rfl) (pe_dc (own := [("place", 2), ("number", 3)]) (g := gTup K 2 (gCons (gName 2) (gCons (gName 3) gNil))) (tk := tVar 3) (tv := tVar 2) rfl scTur.nd (pi_enumA rfl zE (pe_def DR hr pass0 rfl (pa_cons (pe_fld (pv 0) rfl) (pa_cons pe_int pa_nil)))) (blkOk_by (own := [("place", 2), ("number", 3)]) (N := NTu) (sc := defScope s_Monoid_turned) (by decide +kernel))
          (fun _ _ _ _ _ => pg_tup rfl (pgs_cons (pg_name (i := 2) scTur.nd rfl (Or.inl rfl)) (pgs_cons (pg_name (i := 3) scTur.nd rfl (Or.inl rfl)) pgs_nil))) (fun _ _ _ _ _ => pts_nil) (fun _ _ _ _ _ => pv 3) (fun _ _ _ _ _ => pv 2)))
      (pss_one (ps_ret (pe_callTy call_tuple_of rfl zt PyProof.Rows.boot_tuple (pa_cons (pe_lc (own := [("number", 3)]) (g := gName 3) (te := tDGet (tVar 1) (tVar 3)) (by rfl) scTur.nd (pi_range1 rfl zr (pa_cons (pe_meth0 (pv 0) cl mz Fz r1 bz .nil pass0) pa_nil)) (blkOk_by (own := [("number", 3)]) (N := NTu) (sc := defScope s_Monoid_turned) (by decide +kernel)) (fun _ _ _ _ _ => pg_name (i := 3) scTur.nd rfl (Or.inl rfl)) (fun _ _ _ _ _ => pts_nil)
          (fun _ _ _ _ _ => by exact pe_dget hu (pv 1) (pv 3) (fun _ _ => rfl))) pa_nil))))), ?_⟩
    have n2 := M.F.2.1
    have ol := M.olen
    have nd := M.nd
    refine ⟨_, rfl, p, _, dx, _, _, rfl, hp, cl, n3, rfl, v, 0, _, rfl, LL, M.rf, by rw [M.left_len]; exact n2, fun pl H2 np s2 hpl => ?_⟩
    rw [show Reach.ord (Mon.leftTab rows m) 0 = Ass.O rows m from rfl] at hpl
    have etn : ∀ x, Ass.tn rows m x = Reach.idx (Ass.O rows m) x := fun _ => rfl
    generalize hO : Ass.O rows m = O at ol nd hpl etn
    refine ⟨pl, _, rfl, .inl ⟨SqL.of hpl, fun D nD => ?_⟩⟩
    have nDp : D ≠ pl := fun z => by rw [z, hpl] at nD; cases nD
    refine dc_enumL (K := K) (a := pl) (xs := O.map nv) (fun i Hc => But D H2 Hc ∧ Hc D = some (.dK (idT (O.take i)))) ⟨But.upd, upd_same⟩ (fun i Hc _ ⟨bc, _⟩ => SqL.of (bc _ _ nDp.symm hpl)) (fun i y Hc hy ⟨bc, hD⟩ T nT => ?_) (fun Hc ⟨bc, hD⟩ => ?_)
    · obtain ⟨x, hx, rfl⟩ := map_get hy
      refine ⟨T, _, rfl, SqT.of upd_same, rfl, _, _, rfl, _, _, rfl, rfl, rfl, yesT ?_⟩
      have nTD : T ≠ D := fun z => by rw [z, hD] at nT; cases nT
      have ln : (O.take i).length = i := by rw [List.length_take]; have := get_lt hx; omega
      have new : x ∉ O.take i := fun h => by
        obtain ⟨k, hk⟩ := List.getElem?_of_mem h
        have kl := get_lt hk
        rw [List.getElem?_take_of_lt (by omega)] at hk
        have := Mon.nodup_at nd hk hx
        omega
      refine ⟨_, rfl, _, rfl, idT (O.take i), ik x, rfl, by rw [upd_ne nTD.symm]; exact hD, by rw [idF_len, ln]; have := get_lt hx; show i < 16777216; omega, ?_, ?_⟩
      · refine But.trans (fun b o nb e => ?_) But.upd
        have e' := bc b o nb e
        rw [upd_ne (ne_of_none e' nT)]
        exact e'
      · have z := idT_put new
        rw [ln] at z
        rw [upd_same, take_snoc hx, ← z]
    rw [List.length_map, List.take_length] at hD
    have s3 : Same H Hc := fun b o e => bc b o (ne_of_none (s2 b o e) nD) (s2 b o e)
    have mo3 := mo.same s3
    obtain ⟨dx3, t3, u3, v3, hp3, _⟩ := id mo3.ex
    have dg : ∀ {H' : Hp} {x : Nat}, H' D = some (.dK (idT O)) → x ∈ O → DGet H' D (.int (x : Nat)) (some (nv (Ass.tn rows m x))) := fun {H' x} h hx => by
      have z := DGet.k (k := ik x) h
      rw [idF_some (k := 0) nd (Reach.idx_get hx), Nat.zero_add] at z
      rw [etn]
      exact z
    refine ⟨_, rfl, p, dx3, _, rfl, hp3, rfl, p, rows, m, rfl, mo3, ((rows.length : Nat) : Int), rfl, by omega, by omega, fun L nL => ?_⟩
    have nLD : L ≠ D := fun z => by rw [z, hD] at nL; cases nL
    refine lc_range (lo := 0) (n := rows.length) (fun i Hd => But L Hc Hd ∧ Hd L = some (.lst (((List.range i).map (Ass.tn rows m)).map nv))) ⟨But.upd, upd_same⟩ (fun i Hd hi ⟨bd, hL⟩ => ?_) (fun Hd ⟨bd, hL⟩ => ?_)
    · refine ⟨rfl, yesT ?_⟩
      rw [Int.zero_add]
      refine ⟨_, rfl, _, rfl, D, _, rfl, dg (bd _ _ nLD.symm hD) (by rw [← hO]; exact M.all hi), _, hL, by rw [List.length_map, List.length_map, List.length_range]; show i < 16777216; omega, bd.trans But.upd, ?_⟩
      rw [upd_same, List.range_succ, List.map_append, List.map_append]
      rfl
    · have sd : Same H Hd := fun b o e => bd b o (ne_of_none (s3 b o e) nL) (s3 b o e)
      exact ⟨L, _, rfl, .inl ⟨SqL.of hL, fun tt nt => k tt _ (sd.trans (same_upd nt)) upd_same⟩⟩
end
end K16

set_option Elab.async false
set_option linter.all false
set_option maxRecDepth 100000
set_option maxHeartbeats 4000000
/-! {key: value} with a tuple key. -/
namespace Lf
open PySem PySem.Spec PyProof.Rows L2
/-- {k: v} -/
def tDispT1 (tk tv : TE) : TE := fun σ H Q => ∀ p, H p = none → tk σ (upd H p (.dT [])) fun x H1 => tv σ H1 fun y H2 => ∃ ks b H3, H2 p = some (.dT []) ∧ x = .ref b ∧ H2 b = some (.tup (ks.map kV)) ∧ H3 = upd H2 p (.dT [(ks, y)]) ∧ Q (.ref p) H3
theorem pe_dispT1 {X : Cx} {pos : Pos} {k v : Expr} {tk tv : TE} (hu : X.A.units + 1 < cLine) (hk : PE X k tk) (hv : PE X v tv) : PE X (.Dict [some k] [v] pos) (tDispT1 tk tv) := by
  refine ⟨fun pins s σ H Q I q => ?_⟩
  have hn := I.hok.fresh (Nat.le_refl s.heap.objs.size)
  have I1 := I.laid (a := s.heap.objs.size) (o := .dT []) (h' := s.heap.push { cls := .type "dict", data := .dict #[] }) (t' := s.toks) (fun _ _ q => Heap.get?_push_of_some _ q) (Nat.le_refl _) (dt_empty s.heap I.big)
  rw [arm_eval_Dict, zip_pairTrees [some k] [v] X.env pos rfl rfl, dictDisplay_pairs (pairTrees [some k] [v] X.env pos) (fun z => by cases z) (show 1 < 17 by decide)]
  refine wpAny_bind (wpAny_standAt (wpAny_bind ?_))
  unfold subDict
  refine wpAny_bind (wpAny_alloc ?_)
  refine wpAny_bind (wpAny_holding ?_)
  rw [if_pos (show (pairTrees [some k] [v] X.env pos).length ≤ 15 from (by show 1 ≤ 15; decide))]
  refine wpAny_bind (pairTrees_cons_walk (thn (hk.run pins _ σ _ _ I1 (q _ hn)) fun u s1 ⟨x, H1, I1, rx, q1⟩ => thn (hv.run pins s1 σ H1 _ I1 q1) fun r s2 ⟨y, H2, I2, ry, q2⟩ => pairTrees_nil_walk ?_))
  obtain ⟨ks, b, H3, e, ex, eb, e3, q3⟩ := q2
  subst ex e3
  cases (show u = Value.ref b from rx)
  obtain ⟨z, hd, xs, rel, dd⟩ := dt_of I2.hok e
  cases rel
  refine wpAny_holding ?_
  rw [List.forIn_cons]
  refine wpAny_bind (wpAny_bind (wpAny_bind (wpAny_dictSet_heap (hsz := by decide) (show (tupleKind (mixKind X.prog X.w)).room X.A from Nat.lt_of_succ_lt hu) (key_of I2.hok eb) dd fun h' dd' hs => wpAny_pure ?_)))
  dsimp only
  refine wpAny_pure (wpAny_pure (wpAny_pure (wpAny_pure ⟨.ref s.heap.objs.size, _, ?_, rfl, q3⟩)))
  obtain ⟨q, es, ep, hq, h2, h3, h4, _, h5⟩ := dd'
  refine d_write I2 (by rw [e]; exact True.intro) hs ⟨q, hq⟩ ⟨by show 1 ≤ sizeLine; decide, hd, _, ((show KT H2 [] [] from .nil).put ks eb ry).keeps fun c ys ec => ?_, q, es, ep, hq, h2, h3, h4, h5⟩
  rw [upd_ne (ne_of ec e (fun z => nomatch z))]
  exact ec
end Lf

set_option Elab.async false
set_option linter.all false
set_option maxRecDepth 100000
set_option maxHeartbeats 4000000
/-! zip(text, list), walked. -/
namespace Lf
open PySem PySem.Spec PyProof.Rows L2
/-- the cells of such a zip lie apart -/
structure Far (z TI TO i1 i2 b : Addr) : Prop where
  a1 : TI ≠ z
  a2 : TO ≠ z
  a3 : TI ≠ TO
  a4 : TI ≠ i1
  a5 : TI ≠ i2
  a6 : z ≠ i1
  a7 : z ≠ i2
  a8 : TO ≠ i1
  a9 : TO ≠ i2
  b1 : i1 ≠ i2
  c1 : z ≠ b
  c2 : TO ≠ b
  c3 : i1 ≠ b
  c4 : i2 ≠ b
theorem Far.sep {z TI TO i1 i2 b : Addr} (f : Far z TI TO i1 i2 b) : ZipSep2 z TI TO i1 i2 [i1] [i2, b] where
  TIz := f.a1
  TOz := f.a2
  TITO := f.a3
  TIi1 := f.a4
  mem1 := List.mem_cons_self
  zf1 := fun h => f.a6 (List.mem_singleton.mp h)
  Tf1 := fun h => f.a8 (List.mem_singleton.mp h)
  TIi2 := f.a5
  mem2 := List.mem_cons_self
  zf2 := fun h => by
    simp only [List.mem_cons, List.not_mem_nil, or_false] at h
    exact h.elim f.a7 f.c1
  Tf2 := fun h => by
    simp only [List.mem_cons, List.not_mem_nil, or_false] at h
    exact h.elim f.a9 f.c2
  sep1_2 := fun h => by
    simp only [List.mem_cons, List.not_mem_nil, or_false] at h
    exact h.elim f.b1 f.c3
  sep2_1 := fun h => f.b1 (List.mem_singleton.mp h).symm
/-- signs of a text and items of a list, in new pairs -/
def Itzs (K : PySem.W.Frag) (x : Str) (b : Addr) : It :=
  ⟨fun i H => ∃ (ys : List V) (c : Nat) (y : V), SqL K H b ys ∧ x.cps[i]? = some c ∧ ys[i]? = some y,
    fun i H v H' => ∃ (T : Addr) (c : Nat) (y : V), v = .ref T ∧ H T = none ∧ H' = L2.upd H T (.tup [.str ⟨#[c]⟩, y]) ∧ x.cps[i]? = some c ∧ ∀ ys, SqL K H b ys → ys[i]? = some y,
    fun i H => ∃ ys : List V, SqL K H b ys ∧ i ≤ x.cps.size ∧ i ≤ ys.length ∧ (i = x.cps.size ∨ i = ys.length)⟩
theorem turn_zips {P : Program} {w : World} {K : PySem.W.Frag} {elts : List Expr} {kk : Nat} {tpos : Pos} {z TI TO i1 i2 b : Addr} (x : Str) (t : Tok) (f : Far z TI TO i1 i2 b) :
    Turn P w K (.Tuple elts kk tpos) (Itzs K x b) [z, TI, TO, i1, i2] z (fun i h => IsZip h z TI TO .none ∧ IsTupOf2 h TI (.ref i1) (.ref i2) ∧ (∃ p q, IsTupOf2 h TO p q) ∧ h.IsStrIter i1 (strIterType x) x t i ∧ h.IsListIter i2 b i) where
  mem := List.mem_cons_self
  obj := fun i h st c hc => by
    obtain ⟨hz, hTI, ⟨p, q, hTO⟩, ⟨o1, e1, _, d1⟩, ⟨o2, e2, _, d2⟩⟩ := st
    simp only [List.mem_cons, List.not_mem_nil, or_false] at hc
    rcases hc with rfl | rfl | rfl | rfl | rfl
    · exact ⟨_, hz, fun v q => nomatch q⟩
    · exact ⟨_, hTI, fun v q => nomatch q⟩
    · exact ⟨_, hTO, fun v q => nomatch q⟩
    · exact ⟨o1, e1, fun v q => by rw [d1] at q; cases q⟩
    · exact ⟨o2, e2, fun v q => by rw [d2] at q; cases q⟩
  keep := fun i h h' st k => by
    obtain ⟨hz, hTI, ⟨p, q, hTO⟩, h1, h2⟩ := st
    obtain ⟨o1, e1, g1⟩ := h1
    exact ⟨k z (by simp) _ hz, k TI (by simp) _ hTI, ⟨p, q, k TO (by simp) _ hTO⟩, ⟨o1, k i1 (by simp) _ e1, g1⟩, h2.at fun o e => k i2 (by simp) o e⟩
  item := by
    intro X hP hw hK hc i pins s σ H E I hf st hg
    subst hP hw hK
    obtain ⟨hz, hTI, ⟨p0, q0, hTO⟩, h1, h2⟩ := st
    obtain ⟨ys, c, y, hq, hx, hy⟩ := hg
    obtain ⟨its, rv, p, _⟩ := I.list hq
    obtain ⟨u, hu, ru⟩ := rv.get hy
    have calm : X.A.in1.handled = none := by have := I.ok.hd hc; simp [this]
    have zl : z < s.heap.objs.size := Heap.lt_size hz
    have lt1 : i < x.cps.size := (Array.getElem?_eq_some_iff.mp hx).1
    have lt2 : i < its.toArray.size := by rw [List.size_toArray, ← rv.length]; exact (List.getElem?_eq_some_iff.mp hy).1
    refine wpAny_pyNext_zipD2_item f.sep (Draws.text (prog := X.prog) (w := X.w) calm i1 x t) (Draws.list (prog := X.prog) (w := X.w) calm i2 b (Ne.symm f.c4) its.toArray) hz hTI hTO h1 ⟨h2, p.isList⟩ lt1 lt2
      fun x1 x2 h' tk y1 y2 hz' hTO' d1 d2 hT hsz hk => ?_
    obtain ⟨c', t', hc', rfl⟩ := y1
    rw [hx] at hc'
    cases hc'
    have eu : u = x2 := by
      have q : its[i]? = some x2 := by simpa using y2
      rw [hu] at q
      exact Option.some.inj q
    subst eu
    refine ⟨_, rfl, wpAny_letOwnedTupleGo_zip (s := { s with heap := h', toks := tk }) hz' fun h'' z'' sb => ?_⟩
    have hT2 : h''.get? s.heap.objs.size = some { cls := .type "tuple", data := .seq #[.str ⟨#[c]⟩ t', u] } := (sb.2 _ (Nat.ne_of_gt zl)).trans hT
    have new : ObjOk X.prog X.w (L2.upd H s.heap.objs.size (.tup [.str ⟨#[c]⟩, y])) h'' s.heap.objs.size (.tup [.str ⟨#[c]⟩, y]) :=
      ⟨by show 2 ≤ sizeLine; decide, [.str ⟨#[c]⟩ t', u], .cons ⟨_, rfl⟩ (.cons ru .nil), ⟨_, hT2, rfl, _, rfl⟩⟩
    have I1 : Inv X pins σ (L2.upd H s.heap.objs.size (.tup [.str ⟨#[c]⟩, y])) { s with heap := h'', toks := tk } :=
      I.turnedNew (ch := [z, TI, TO, i1, i2]) (fun d o hb q => (sb.2 d (fun e => hb (by simp [e]))).trans (hk d o (fun e => hb (by simp [e])) (fun e => hb (by simp [e])) (fun e => hb (by simp [e])) (fun e => hb (by simp [e])) q)) hf (Nat.le_refl _) new
    obtain ⟨o1, e1, g1⟩ := d1
    refine ⟨.ref s.heap.objs.size, _, I1, rfl, ⟨_, c, y, rfl, I.hok.fresh (Nat.le_refl _), rfl, hx, fun l hl => by rw [I.list_inj hl hq]; exact hy⟩, ⟨z'', ?_, ⟨_, _, (sb.2 _ f.a2).trans hTO'⟩, ⟨o1, (sb.2 _ (Ne.symm f.a6)).trans e1, g1⟩, d2.1.at fun o q => (sb.2 _ (Ne.symm f.a7)).trans q⟩, fun d hd => ?_⟩
    · exact (sb.2 _ f.a1).trans (hk _ _ f.a1 f.a3 f.a4 f.a5 hTI)
    · have lt : d < s.heap.objs.size := by
        simp only [List.mem_cons, List.not_mem_nil, or_false] at hd
        rcases hd with rfl | rfl | rfl | rfl | rfl
        · exact zl
        · exact Heap.lt_size hTI
        · exact Heap.lt_size hTO
        · obtain ⟨_, e, _⟩ := h1; exact Heap.lt_size e
        · obtain ⟨_, e, _⟩ := h2; exact Heap.lt_size e
      rw [upd_ne (Nat.ne_of_lt lt)]
      exact (hf d hd).1
  done := by
    intro X hP hw hK hc i pins s σ H E I hf st hg
    subst hP hw hK
    obtain ⟨hz, hTI, ⟨p0, q0, hTO⟩, h1, h2⟩ := st
    obtain ⟨ys, hq, le1, le2, hend⟩ := hg
    obtain ⟨its, rv, p, _⟩ := I.list hq
    have l2 := rv.length
    have calm : X.A.in1.handled = none := by have := I.ok.hd hc; simp [this]
    refine wpAny_pyNext_zipD2_end f.sep (Draws.text (prog := X.prog) (w := X.w) calm i1 x t) (Draws.list (prog := X.prog) (w := X.w) calm i2 b (Ne.symm f.c4) its.toArray) hz hTI hTO h1 ⟨h2, p.isList⟩ le1 (by simp; omega) (by simp; omega)
      fun h' tk hk => ⟨rfl, I.turnedL (t' := tk) (ch := [z, TI, TO, i1, i2]) (fun d o hb q => hk d o (fun e => hb (by simp [e])) (fun e => hb (by simp [e])) (fun e => hb (by simp [e])) (fun e => hb (by simp [e])) q) hf⟩
  self := fun A i s Q E st h => wpAny_pyIter_zip st.1 h
def iZips (K : PySem.W.Frag) (ta : TA) : TI := fun σ H R => ta σ H fun vs H1 => ∃ x b ys, vs = [.str x, .ref b] ∧ SqL K H1 b ys ∧ R (Itzs K x b) H1
theorem pi_zips {X : Cx} {e e2 : Expr} {ta : TA} {p pos tpos : Pos} {elts : List Expr} {kk : Nat} (hg : Gl X "zip") (hm : X.mg "zip" = none) (ha : PA X [e, e2] ta)
    (hs : starEach [e, e2] X.env = (false, eval e X.env) :: starEach [e2] X.env := by rfl) (hpl : (backTo pos (starEach [e2] X.env)).any (·.1) = false := by rfl) :
    PI X (.Tuple elts kk tpos) (.Call (.Name "zip" p) [e, e2] [] pos) (iZips X.K ta) := by
  refine ⟨fun pins s σ H R I h => ?_⟩
  refine Call_ (ld_blt I hg hm PyProof.Rows.boot_zip (PyProof.Rows.callWith_type1 (thn (ha.run pos pins s σ H _ I h) fun us s1 hh => ?_) hs hpl))
  obtain ⟨vs, H1, I1, r1, x, b, ys, rfl, hq, q⟩ := hh
  cases r1 with
  | cons r rr =>
    cases rr with
    | cons r2 rr =>
      cases rr
      obtain ⟨t, rfl⟩ := r
      cases r2
      obtain ⟨its, rv, pl, _⟩ := I1.list hq
      have lb : b < s1.heap.objs.size := pl.lt
      refine zip_begins2 (begins_text x t) (begins_list b its.toArray) trivial pl.isList fun h' hz hTI hTO g1 g2 hsz hk => wpAny_pyIter_zip hz ?_
      have I2 : Inv X pins σ H1 { s1 with heap := h' } := I1.kept (t' := s1.toks) hk
      have far : Far (s1.heap.objs.size + 4) (s1.heap.objs.size + 2) (s1.heap.objs.size + 3) s1.heap.objs.size (s1.heap.objs.size + 1) b := by
        have ne : ∀ k : Nat, s1.heap.objs.size + k ≠ b := fun k => Nat.ne_of_gt (Nat.lt_of_lt_of_le lb (Nat.le_add_right _ _))
        refine ⟨?_, ?_, ?_, ?_, ?_, ?_, ?_, ?_, ?_, ?_, ne 4, ne 3, ne 0, ne 1⟩ <;> (intro h; have h' : (_ : Nat) = _ := h; omega)
      refine ⟨s1.heap.objs.size + 4, [s1.heap.objs.size + 4, s1.heap.objs.size + 2, s1.heap.objs.size + 3, s1.heap.objs.size, s1.heap.objs.size + 1], _, _, H1, rfl, I2, turn_zips x t far, ⟨hz, hTI, ⟨_, _, hTO⟩, ⟨_, g1, rfl, rfl⟩, ⟨_, g2, rfl, rfl⟩⟩, fun c hc => ?_, q⟩
      have hle : s1.heap.objs.size ≤ c := by
        simp only [List.mem_cons, List.not_mem_nil, or_false] at hc
        rcases hc with z | z | z | z | z <;> rw [z]
        · exact Nat.le_add_right _ _
        · exact Nat.le_add_right _ _
        · exact Nat.le_add_right _ _
        · exact Nat.le_refl _
        · exact Nat.le_add_right _ _
      exact I1.fpOk hle (I1.hok.fresh hle)
theorem walk_zips {K : PySem.W.Frag} {x : Str} {b : Addr} {ys : List V} (le : ys.length ≤ x.cps.size) : Walk (Itzs K x b) ys.length (fun H => SqL K H b ys)
    (fun i H v H' => ∃ (T : Addr) (c : Nat) (y : V), v = .ref T ∧ H T = none ∧ H' = L2.upd H T (.tup [.str ⟨#[c]⟩, y]) ∧ x.cps[i]? = some c ∧ ys[i]? = some y) where
  goes := fun i H hi g => ⟨ys, x.cps[i]'(by omega), ys[i], g, Array.getElem?_eq_getElem (by omega), List.getElem?_eq_getElem hi⟩
  stops := fun H g => ⟨ys, g, le, Nat.le_refl _, .inr rfl⟩
  yields := fun i H v H' hi g y => by
    obtain ⟨T, c, u, e1, e2, e3, e4, e5⟩ := y
    exact ⟨T, c, u, e1, e2, e3, e4, e5 ys g⟩
end Lf

set_option Elab.async false
set_option linter.all false
set_option maxRecDepth 100000
set_option maxHeartbeats 8000000
namespace K16
open PySem PySem.Spec PyProof.Rows L2 Lf
/-- a word as a text -/
def ws (x : List Nat) : Str := ⟨(x.map fun c => 97 + c).toArray⟩
abbrev wv (x : List Nat) : V := .str (ws x)
theorem ws_app {x : List Nat} {c : Nat} : (ws x ++ (⟨#[97 + c]⟩ : Str)) = ws (x ++ [c]) := by
  show Str.mk ((x.map fun c => 97 + c).toArray ++ #[97 + c]) = ws (x ++ [c])
  unfold ws
  simp
theorem ws_len {x : List Nat} : (ws x).length = x.length := by
  show ((x.map fun c => 97 + c).toArray).size = x.length
  simp
theorem word_shortF : ∀ (m : List (Nat × Nat)) (L : List (List Nat)) (n : Nat), (∀ w ∈ L, w.length ≤ n) → ∀ w ∈ m.foldl Mon.wordStep L, w.length ≤ n + m.length
  | [], L, n, h, w, hw => h w hw
  | p :: r, L, n, h, w, hw => by
    rw [List.length_cons, show n + (r.length + 1) = n + 1 + r.length by omega]
    refine word_shortF r (Mon.wordStep L p) (n + 1) (fun u hu => ?_) w hw
    unfold Mon.wordStep at hu
    rcases List.mem_append.mp hu with g | g
    · have := h u g
      omega
    · rw [List.mem_singleton.mp g, List.length_append, List.length_singleton]
      cases e : L[p.1]? with
      | none => rw [List.getD, e]; show 0 + 1 ≤ _; omega
      | some v =>
        rw [List.getD, e]
        have := h v (List.mem_of_getElem? e)
        show v.length + 1 ≤ _
        omega
theorem word_short {m : List (Nat × Nat)} {w : List Nat} (h : w ∈ Mon.wordTab m) : w.length ≤ m.length := by
  have := word_shortF m [[]] 0 (fun u hu => by rw [List.mem_singleton.mp hu]; exact Nat.le_refl _) w h
  omega
/-- what the search has found, as it lies -/
structure Lay (H : Hp) (pf pw pt pn : Addr) (as bs : List Addr) (found words rows : List (List Nat)) : Prop where
  f : H pf = some (.lst (as.map V.ref))
  fl : as.length = found.length
  fe : ∀ (j : Nat) a x, as[j]? = some a → found[j]? = some x → H a = some (.tup (x.map nv))
  w : H pw = some (.lst (words.map wv))
  t : H pt = some (.lst (bs.map V.ref))
  tl : bs.length = rows.length
  te : ∀ (j : Nat) b r, bs[j]? = some b → rows[j]? = some r → H b = some (.lst (r.map nv))
  tn : ∀ b ∈ bs, b ≠ pf ∧ b ≠ pw ∧ b ≠ pt
  d : H pn = some (.dT (dtab found))
  n1 : pf ≠ pw
  n2 : pf ≠ pt
  n3 : pw ≠ pt
section
variable {H : Hp} {pf pw pt pn : Addr} {as bs : List Addr} {found words rows : List (List Nat)}
theorem Lay.same {H' : Hp} (L : Lay H pf pw pt pn as bs found words rows) (s : Same H H') : Lay H' pf pw pt pn as bs found words rows :=
  ⟨s _ _ L.f, L.fl, fun j a x h1 h2 => s _ _ (L.fe j a x h1 h2), s _ _ L.w, s _ _ L.t, L.tl, fun j b r h1 h2 => s _ _ (L.te j b r h1 h2), L.tn, s _ _ L.d, L.n1, L.n2, L.n3⟩
theorem Lay.gn (L : Lay H pf pw pt pn as bs found words rows) : pn ≠ pf ∧ pn ≠ pw ∧ pn ≠ pt := by
  refine ⟨fun z => ?_, fun z => ?_, fun z => ?_⟩
  · have := L.d; rw [z, L.f] at this; cases this
  · have := L.d; rw [z, L.w] at this; cases this
  · have := L.d; rw [z, L.t] at this; cases this
theorem Lay.bn (L : Lay H pf pw pt pn as bs found words rows) {b : Addr} (hb : b ∈ bs) : b ≠ pn := fun z => by
  obtain ⟨j, hj⟩ := List.getElem?_of_mem hb
  obtain ⟨r, hr⟩ := lt_get (show j < rows.length by rw [← L.tl]; exact get_lt hj)
  have := L.te j b r hj hr
  rw [z, L.d] at this
  cases this
/-- a list that is not of it changes -/
theorem Lay.off (L : Lay H pf pw pt pn as bs found words rows) {p : Addr} {l l' : List V} (hp : H p = some (.lst l)) (np : p ≠ pf ∧ p ≠ pw ∧ p ≠ pt) (nb : p ∉ bs) : Lay (upd H p (.lst l')) pf pw pt pn as bs found words rows where
  f := by rw [upd_ne np.1.symm]; exact L.f
  fl := L.fl
  fe := fun j a x h1 h2 => by
    have e := L.fe j a x h1 h2
    rw [upd_ne (fun z => by rw [z, hp] at e; cases e)]
    exact e
  w := by rw [upd_ne np.2.1.symm]; exact L.w
  t := by rw [upd_ne np.2.2.symm]; exact L.t
  tl := L.tl
  te := fun j b r h1 h2 => by
    rw [upd_ne (fun z => nb (by rw [← z]; exact List.mem_of_getElem? h1))]
    exact L.te j b r h1 h2
  tn := L.tn
  d := by
    have e := L.d
    rw [upd_ne (fun z => by rw [z, hp] at e; cases e)]
    exact e
  n1 := L.n1
  n2 := L.n2
  n3 := L.n3
/-- a row more -/
theorem Lay.row (L : Lay H pf pw pt pn as bs found words rows) {p : Addr} {r : List Nat} (hp : H p = some (.lst (r.map nv))) (np : p ≠ pf ∧ p ≠ pw ∧ p ≠ pt) : Lay (upd H pt (.lst ((bs ++ [p]).map V.ref))) pf pw pt pn as (bs ++ [p]) found words (rows ++ [r]) where
  f := by rw [upd_ne L.n2]; exact L.f
  fl := L.fl
  fe := fun j a x h1 h2 => by
    have e := L.fe j a x h1 h2
    rw [upd_ne (fun z => by rw [z, L.t] at e; cases e)]
    exact e
  w := by rw [upd_ne L.n3]; exact L.w
  t := upd_same
  tl := by rw [List.length_append, List.length_append, L.tl]; rfl
  te := fun j b r' h1 h2 => by
    rcases Mon.snoc_cases h1 with h1 | ⟨rfl, rfl⟩
    · rcases Mon.snoc_cases h2 with h2 | ⟨rfl, rfl⟩
      · rw [upd_ne (L.tn b (List.mem_of_getElem? h1)).2.2]
        exact L.te j b r' h1 h2
      · have := get_lt h1
        rw [L.tl] at this
        omega
    · rcases Mon.snoc_cases h2 with h2 | ⟨_, rfl⟩
      · have := get_lt h2
        rw [L.tl] at this
        omega
      · rw [upd_ne np.2.2]
        exact hp
  tn := fun b hb => by
    rcases List.mem_append.mp hb with h | h
    · exact L.tn b h
    · rw [List.mem_singleton.mp h]
      exact np
  d := by rw [upd_ne L.gn.2.2]; exact L.d
  n1 := L.n1
  n2 := L.n2
  n3 := L.n3
/-- an element more -/
theorem Lay.add (L : Lay H pf pw pt pn as bs found words rows) {b : Addr} {x wd : List Nat} (hb : H b = some (.tup (x.map nv))) : Lay (upd (upd (upd H pn (.dT (dtab (found ++ [x])))) pf (.lst ((as ++ [b]).map V.ref))) pw (.lst ((words ++ [wd]).map wv))) pf pw pt pn (as ++ [b]) bs (found ++ [x]) (words ++ [wd]) rows where
  f := by rw [upd_ne L.n1, upd_same]
  fl := by rw [List.length_append, List.length_append, L.fl]; rfl
  fe := fun j a y h1 h2 => by
    have e : H a = some (.tup (y.map nv)) := by
      rcases Mon.snoc_cases h1 with h1 | ⟨rfl, rfl⟩
      · rcases Mon.snoc_cases h2 with h2 | ⟨rfl, rfl⟩
        · exact L.fe j a y h1 h2
        · have := get_lt h1
          rw [L.fl] at this
          omega
      · rcases Mon.snoc_cases h2 with h2 | ⟨_, rfl⟩
        · have := get_lt h2
          rw [L.fl] at this
          omega
        · exact hb
    rw [upd_ne (fun z => by rw [z, L.w] at e; cases e), upd_ne (fun z => by rw [z, L.f] at e; cases e), upd_ne (fun z => by rw [z, L.d] at e; cases e)]
    exact e
  w := upd_same
  t := by rw [upd_ne L.n3.symm, upd_ne L.n2.symm, upd_ne L.gn.2.2.symm]; exact L.t
  tl := L.tl
  te := fun j c r h1 h2 => by
    have m := List.mem_of_getElem? h1
    obtain ⟨a1, a2, a3⟩ := L.tn c m
    rw [upd_ne a2, upd_ne a1, upd_ne (L.bn m)]
    exact L.te j c r h1 h2
  tn := L.tn
  d := by rw [upd_ne L.gn.2.1, upd_ne L.gn.1, upd_same]
  n1 := L.n1
  n2 := L.n2
  n3 := L.n3
end
end K16

set_option Elab.async false
set_option linter.all false
set_option maxRecDepth 100000
set_option maxHeartbeats 8000000
namespace K16
open PySem PySem.Spec PyProof.Rows L2 Lf
def spTable (K : PySem.W.Frag) : Sp := fun vs H Q _ => ∃ r n gens, vs = [.ref r] ∧ Maps H r gens ∧ gens ≠ [] ∧ gens.length ≤ 6 ∧ 1 ≤ n ∧ n ≤ 4 ∧ (∀ g ∈ gens, Mon.Valid n g) ∧
  ∀ T pf pw pt pn as bs found rows m H', Same H H' → H T = none → H' T = some (.tup [.ref pf, .ref pw, .ref pt]) → Lay H' pf pw pt pn as bs found (Mon.wordTab m) rows → Mon.Tab n gens found rows → Mon.madeTab 0 rows [] = some m → m.length + 1 = rows.length → (H pf = none ∧ H pw = none ∧ H pt = none ∧ ∀ b ∈ bs, H b = none) → Q (.ref T) H'
abbrev teIm (K : PySem.W.Frag) : TE := tOp (rIxT K) (tVar 8) (tVar 10)
theorem rgV_nv {n : Nat} : rgV 0 (n : Nat) = (Mon.idm n).map nv := by
  unfold rgV Mon.idm
  simp
theorem letter_at {c cc : Nat} (h : c < 6) (e : ("abcdef" : Str).cps[c]? = some cc) : cc = 97 + c := by
  have : c = 0 ∨ c = 1 ∨ c = 2 ∨ c = 3 ∨ c = 4 ∨ c = 5 := by omega
  rcases this with rfl | rfl | rfl | rfl | rfl | rfl <;> exact (Option.some.inj ((show _ = some _ by decide +kernel).symm.trans e)).symm
section
variable {P : Program} {w : World} {K : PySem.W.Frag} {mg : Str → Option Value} {base : Heap}
theorem scTable : FnScope ["_law_rows", "_law_found", "_law_words", "_law_table_here", "_law_numbers", "_law_at", "_law_row", "_law_letter", "_law_other", "_law_product", "_law_image"] ["_law_rows"] (defScope s_L_table) := ⟨rfl, rfl, rfl, by decide +kernel, rfl, by decide +kernel, by decide +kernel⟩
theorem ok_table {f : Addr} {fd : FuncData} {q : Str} (F : FunD K "_law_table" q (defArgs s_L_table) (defBody s_L_table) (defScope s_L_table) [] [] f fd) (zr : mg "range" = none) (zt : mg "tuple" = none) (zn : mg "len" = none) (zz : mg "zip" = none) :
    FnOk P w K mg base CX0 1 f fd ["_law_rows"] (spTable K) := by
  refine F.ok scTable (fun vs H Q E h => ?_) (fun cdv A outer s H vs Q E hr h => ?_)
  · obtain ⟨r, n, gens, rfl, _⟩ := h
    rfl
  · obtain ⟨r, n, gens, rfl, M, ne, g6, n1, n4, gv, k⟩ := h
    have hu : (A.deeper (envOfC q (defScope s_L_table) s.heap.objs.size f cdv)).units + 1 < cLine := by have := hr.units; omega
    refine ⟨_, PSs.nox (pss_cons (ps_par3 (i := 1) (j := 2) (l := 3) rfl scTable.nd rfl rfl rfl (by decide) (by decide) (by decide) rfl rfl rfl
        (pa_cons (pe_lst (pa_cons (pe_tupRg rfl rfl zt (prg_1 rfl zr (pe_callB call_len_seq rfl zn boot_len (pa_cons (pe_ix ix_list (pv 0) pe_int (fun _ _ => rfl)) pa_nil)))) pa_nil)) (pa_cons (pe_lst (pa_cons pe_str pa_nil)) (pa_cons (pe_lst pa_nil) pa_nil))) (by rfl))
      (pss_cons (ps_set (i := 4) scTable.nd rfl (.inl rfl) (pe_dispT1 hu (pe_ix ix_list (pv 1) pe_int (fun _ _ => rfl)) pe_int))
      (pss_cons (ps_for PassesOwn.never rfl (pi_range1 rfl zr (pa_cons pe_int pa_nil)) (pg_name (i := 5) scTable.nd rfl (.inl rfl))
        (pss_cons (ps_if (pt_cmpR op_ge (pv 5) (pe_callB call_len_seq rfl zn boot_len (pa_cons (pv 1) pa_nil)) (nomark _)) (pss_one (ps_ret (pe_tup (pa_cons (pv 1) (pa_cons (pv 2) (pa_cons (pv 3) pa_nil)))))) pss_nil)
        (pss_cons (ps_set (i := 6) scTable.nd rfl (.inl rfl) (pe_lst pa_nil))
        (pss_cons (ps_for PassesOwn.never rfl (pi_zips rfl zz (pa_cons pe_str (pa_cons (pv 0) pa_nil))) (pg_tup rfl (pgs_cons (pg_name (i := 7) scTable.nd rfl (.inl rfl)) (pgs_cons (pg_name (i := 8) scTable.nd rfl (.inr rfl)) pgs_nil)))
          (pss_cons (ps_set (i := 9) scTable.nd rfl (.inl rfl) (pe_callTy call_tuple_of rfl zt PyProof.Rows.boot_tuple (pa_cons (pe_lc (own := [("_law_image", 10)]) (g := gName 10) (te := teIm K) (by rfl) scTable.nd (pi_tup (pe_ix ix_list (pv 1) (pv 5) (fun _ _ => rfl))) (blkOk_by (own := [("_law_image", 10)]) (N := ["_law_rows", "_law_found", "_law_words", "_law_table_here", "_law_numbers", "_law_at", "_law_row", "_law_letter", "_law_other", "_law_product", "_law_image"]) (sc := defScope s_L_table) (by decide +kernel)) (fun _ _ _ _ _ => pg_name (i := 10) scTable.nd rfl (Or.inl rfl)) (fun _ _ _ _ _ => pts_nil)
              (fun _ _ _ _ _ => by exact pe_ix ix_tup (pv 8) (pv 10) (fun _ _ => rfl))) pa_nil)))
          (pss_cons (ps_if (pt_cmp (pc_dnotin hu (pv 9) (pv 4)) (by rfl))
            (pss_cons (ps_dput hu (pv 4) (pv 9) (pe_callB call_len_seq rfl zn boot_len (pa_cons (pv 1) pa_nil)) rfl)
            (pss_cons (ps_expr (pe_bm PySem.F.plainAttrs_list PySem.F.slot_list_append PySem.F.type_list_append mt_append (pv 1) (pa_cons (pv 9) pa_nil)))
            (pss_one (ps_expr (pe_bm PySem.F.plainAttrs_list PySem.F.slot_list_append PySem.F.type_list_append mt_append (pv 2) (pa_cons (pe_op op_add_str (pe_ix ix_list (pv 2) (pv 5) (fun _ _ => rfl)) (pv 7)) pa_nil)))))) pss_nil)
          (pss_one (ps_expr (pe_bm PySem.F.plainAttrs_list PySem.F.slot_list_append PySem.F.type_list_append mt_append (pv 6) (pa_cons (pe_dget hu (pv 4) (pv 9) (fun _ _ => rfl)) pa_nil)))))))
        (pss_one (ps_expr (pe_bm PySem.F.plainAttrs_list PySem.F.slot_list_append PySem.F.type_list_append mt_append (pv 3) (pa_cons (pv 6) pa_nil))))))))
      (pss_one (ps_ret (pe_tup (pa_cons (pv 1) (pa_cons (pv 2) (pa_cons (pv 3) pa_nil))))))))), ?_⟩
    obtain ⟨gs, hr0, lg, eg⟩ := M.ex
    have n0 : 0 < gens.length := List.length_pos_iff.mpr ne
    obtain ⟨a0, ha0⟩ := lt_get (show 0 < gs.length by omega)
    obtain ⟨g0, hg0⟩ := lt_get n0
    have v0 := gv g0 (List.mem_of_getElem? hg0)
    refine ⟨_, rfl, r, gs.map V.ref, 0, .ref a0, rfl, rfl, SqL.of hr0, atI_nat (j := 0) (get_map ha0), a0, g0.map nv, rfl, .inr (SqT.of (eg 0 a0 g0 ha0 hg0)), (n : Nat), by rw [List.length_map, v0.1], ?_⟩
    refine ⟨⟨by decide, by decide, by omega, by omega, by omega⟩, fun i0 ni0 => ?_⟩
    rw [rgV_nv]
    have s1 := same_upd (o := .tup ((Mon.idm n).map nv)) ni0
    have h1 : upd H i0 (.tup ((Mon.idm n).map nv)) i0 = some (.tup ((Mon.idm n).map nv)) := upd_same
    generalize upd H i0 (.tup ((Mon.idm n).map nv)) = H1 at s1 h1 ⊢
    refine ⟨(by show 1 ≤ sizeLine; decide), fun pf nf => ⟨(by show 1 ≤ sizeLine; decide), fun pw nw => ⟨(by show 0 ≤ sizeLine; decide), fun pt nt => ⟨_, _, _, rfl, ?_⟩⟩⟩⟩
    have hpf0 : H pf = none := by
      cases e : H pf with
      | none => rfl
      | some o => rw [s1 _ _ e] at nf; cases nf
    have hf2 : upd H1 pf (.lst [.ref i0]) pf = some (.lst ([i0].map V.ref)) := upd_same
    have s2 := s1.trans (same_upd (o := .lst [.ref i0]) nf)
    have h2 := same_upd (o := .lst [.ref i0]) nf _ _ h1
    generalize upd H1 pf (.lst [.ref i0]) = H2 at s2 h2 hf2 nw nt ⊢
    have hpw0 : H pw = none := by
      cases e : H pw with
      | none => rfl
      | some o => rw [s2 _ _ e] at nw; cases nw
    have hw3 : upd H2 pw (.lst [.str ("" : Str)]) pw = some (.lst ([[]].map wv)) := upd_same
    have u3 := same_upd (o := .lst [.str ("" : Str)]) nw
    have s3 := s2.trans u3
    have h3 := u3 _ _ h2
    have hf3 := u3 _ _ hf2
    have d1 := ne_of_none hf2 nw
    generalize upd H2 pw (.lst [.str ("" : Str)]) = H3 at s3 h3 hf3 hw3 nt ⊢
    have hpt0 : H pt = none := by
      cases e : H pt with
      | none => rfl
      | some o => rw [s3 _ _ e] at nt; cases nt
    have ht4 : upd H3 pt (.lst []) pt = some (.lst (([] : List Addr).map V.ref)) := upd_same
    have u4 := same_upd (o := .lst []) nt
    have s4 := s3.trans u4
    have h4 := u4 _ _ h3
    have hf4 := u4 _ _ hf3
    have hw4 := u4 _ _ hw3
    have d2 := ne_of_none hf3 nt
    have d3 := ne_of_none hw3 nt
    generalize upd H3 pt (.lst []) = H4 at s4 h4 hf4 hw4 ht4 ⊢
    clear u3 u4 s1 s2 s3 h1 h2 h3 hf2 hf3 hw3 nf nw nt
    intro pn nn
    have u5 := same_upd (o := .dT []) nn
    have s5 := s4.trans u5
    have h5 := u5 _ _ h4
    have hf5 := u5 _ _ hf4
    have hw5 := u5 _ _ hw4
    have ht5 := u5 _ _ ht4
    have hn5 : upd H4 pn (.dT []) pn = some (.dT []) := upd_same
    have hn0 : H pn = none := by
      cases e : H pn with
      | none => rfl
      | some o => rw [s4 _ _ e] at nn; cases nn
    generalize upd H4 pn (.dT []) = H5 at s5 h5 hf5 hw5 ht5 hn5 ⊢
    refine ⟨_, rfl, pf, _, 0, .ref i0, rfl, rfl, SqL.of hf5, rfl, kt (Mon.idm n), i0, _, hn5, rfl, by rw [kt_map]; exact h5, rfl, ?_⟩
    have s6 : Same H (upd H5 pn (.dT [(kt (Mon.idm n), .int 0)])) := fun b o e => by
      rw [upd_ne (ne_of_none e hn0)]
      exact s5 b o e
    have L0 : Lay (upd H5 pn (.dT [(kt (Mon.idm n), .int 0)])) pf pw pt pn [i0] [] [Mon.idm n] (Mon.wordTab []) [] := by
      have e1 : pn ≠ pf := fun z => by rw [z, hf5] at hn5; cases hn5
      have e2 : pn ≠ pw := fun z => by rw [z, hw5] at hn5; cases hn5
      have e3 : pn ≠ pt := fun z => by rw [z, ht5] at hn5; cases hn5
      refine ⟨by rw [upd_ne e1.symm]; exact hf5, rfl, fun j a x g1 g2 => ?_, by rw [upd_ne e2.symm]; exact hw5, by rw [upd_ne e3.symm]; exact ht5, rfl, fun j b r g1 g2 => (by simp at g1), fun b hb => (by cases hb), upd_same, d1, d2, d3⟩
      cases j with
      | zero =>
        cases g1
        cases g2
        rw [upd_ne (fun z => by rw [z, hn5] at h5; cases h5)]
        exact h5
      | succ j => simp at g1
    generalize upd H5 pn (.dT [(kt (Mon.idm n), .int 0)]) = H6 at s6 L0 ⊢
    clear s5 h5 hf5 hw5 ht5 hn5 hf4 hw4 ht4 h4 u5 s4 nn
    have hp0 : ∀ {b : Addr} {o : HO}, H b = some o → b ≠ pn := fun e => ne_of_none e hn0
    refine ⟨3000, rfl, by decide, by decide, for_range (lo := 0) (n := 3000) (fun i σ Hn => ∃ v5 v6 v7 v8 v9 : Option V, σ = [some (.ref r), some (.ref pf), some (.ref pw), some (.ref pt), some (.ref pn), v5, v6, v7, v8, v9, none] ∧ Same H Hn ∧ ∃ as bs found rows m, Lay Hn pf pw pt pn as bs found (Mon.wordTab m) rows ∧ Mon.Bfs n gens i 0 found rows [] m ∧ ∀ b ∈ bs, H b = none)
      ⟨none, none, none, none, none, rfl, s6, [i0], [], [Mon.idm n], [], [], L0, Mon.Bfs.start gv, fun b hb => (by cases hb)⟩ (fun i σ Hn hi ⟨v5, v6, v7, v8, v9, eσ, sn, as, bs, found, rows, m, L, B, fr⟩ => ?_) (fun σ Hn ⟨v5, v6, v7, v8, v9, eσ, sn, as, bs, found, rows, m, L, B, fr⟩ => ?_)⟩
    · subst eσ
      have ei : (0 : Int) + (i : Nat) = (i : Nat) := by omega
      rw [ei]
      have f1 := B.few
      have f2 : n ^ n ≤ 256 := by
        have : n = 1 ∨ n = 2 ∨ n = 3 ∨ n = 4 := by omega
        rcases this with rfl | rfl | rfl | rfl <;> decide
      refine ⟨_, rfl, _, rfl, pf, as.map V.ref, rfl, .inl (SqL.of L.f), _, _, rfl, rfl, _, rfl, ?_⟩
      rw [List.length_map, L.fl]
      refine ite2 (fun h0 => ?_) (fun h0 => ?_)
      · have le := of_decide_eq_true h0
        refine ⟨_, rfl, _, rfl, _, rfl, (by show 3 ≤ sizeLine; decide), fun T nT => ?_⟩
        obtain ⟨Tb, hm, lm⟩ := B.tab (by omega)
        have u := same_upd (o := .tup [.ref pf, .ref pw, .ref pt]) nT
        have nT0 : H T = none := by
          cases e : H T with
          | none => rfl
          | some o => rw [sn _ _ e] at nT; cases nT
        exact k T pf pw pt pn as bs found rows m _ (sn.trans u) nT0 upd_same (L.same u) Tb hm lm ⟨hpf0, hpw0, hpt0, fr⟩
      · have il : i < found.length := by
          by_cases z : i < found.length
          · exact z
          · exact (h0 (decide_eq_true (by omega))).elim
        refine ⟨(by show 0 ≤ sizeLine; decide), fun pr nr => ?_⟩
        have np : pr ≠ pf ∧ pr ≠ pw ∧ pr ≠ pt := ⟨(ne_of_none L.f nr).symm, (ne_of_none L.w nr).symm, (ne_of_none L.t nr).symm⟩
        have nb : pr ∉ bs := fun hb => by
          obtain ⟨j, hj⟩ := List.getElem?_of_mem hb
          obtain ⟨r', hr'⟩ := lt_get (show j < rows.length by rw [← L.tl]; exact get_lt hj)
          have := L.te j pr r' hj hr'
          rw [nr] at this
          cases this
        have u := same_upd (o := .lst []) nr
        have L1 := L.same u
        have s7 := sn.trans u
        have hr7 : upd Hn pr (.lst []) pr = some (.lst (([] : List Nat).map nv)) := upd_same
        have nr0 : H pr = none := by
          cases e : H pr with
          | none => rfl
          | some o => rw [sn _ _ e] at nr; cases nr
        have nf0 : H pf = none ∧ H pw = none ∧ H pt = none := ⟨hpf0, hpw0, hpt0⟩
        generalize upd Hn pr (.lst []) = H7 at L1 s7 hr7 ⊢
        clear L nr u sn
        have wk : Walk (Itzs K ("abcdef" : Str) r) (gs.map V.ref).length (fun H2 => Same H H2) (fun i H v H' => ∃ (T : Addr) (c : Nat) (y : V), v = .ref T ∧ H T = none ∧ H' = L2.upd H T (.tup [.str ⟨#[c]⟩, y]) ∧ ("abcdef" : Str).cps[i]? = some c ∧ (gs.map V.ref)[i]? = some y) :=
          (walk_zips (x := ("abcdef" : Str)) (ys := gs.map V.ref) (by rw [List.length_map, lg]; exact g6)).mono (fun H s => L2.Same.seq s (SqL.of hr0)) (fun i H x H' _ _ y => y)
        refine ⟨_, rfl, _, r, gs.map V.ref, rfl, SqL.of (s7 _ _ hr0), for_it wk (fun c σ Hc => ∃ v7 v8 v9 : Option V, σ = [some (.ref r), some (.ref pf), some (.ref pw), some (.ref pt), some (.ref pn), some (.int (i : Nat)), some (.ref pr), v7, v8, v9, none] ∧ Same H Hc ∧ ∃ as found m row, Lay Hc pf pw pt pn as bs found (Mon.wordTab m) rows ∧ Mon.Bfs n gens i c found rows row m ∧ Hc pr = some (.lst (row.map nv)) ∧ i < found.length)
          ⟨_, _, _, rfl, s7, as, found, m, [], L1, B, hr7, il⟩ (fun c σ Hc _ ⟨_, _, _, _, z, _⟩ => z) (fun c y σ Hc H8 hc ⟨v7, v8, v9, eσ, sc, as, found, m, row, L, B, hR, il⟩ ⟨T, cc, z, ey, nT, e8, hcc, hz⟩ => ?_) (fun σ Hc ⟨v7, v8, v9, eσ, sc, as, found, m, row, L, B, hR, il⟩ => ?_)⟩
        · subst eσ ey e8
          obtain ⟨bg, hbg, rfl⟩ := map_get hz
          obtain ⟨g, hg⟩ := lt_get (show c < gens.length by rw [← lg]; exact get_lt hbg)
          obtain ⟨x, hx⟩ := lt_get il
          obtain ⟨a, ha⟩ := lt_get (show i < as.length by rw [L.fl]; exact il)
          have vx := B.val x (List.mem_of_getElem? hx)
          have vg := gv g (List.mem_of_getElem? hg)
          have cc6 : cc = 97 + c := letter_at (Nat.lt_of_lt_of_le (get_lt hg) g6) hcc
          refine ⟨T, _, rfl, SqT.of upd_same, rfl, _, _, rfl, _, _, rfl, rfl, ?_⟩
          have u8 := same_upd (o := .tup [.str ⟨#[cc]⟩, .ref bg]) nT
          have s8 := sc.trans u8
          have L8 := L.same u8
          have hR8 := u8 _ _ hR
          generalize L2.upd Hc T (.tup [.str ⟨#[cc]⟩, .ref bg]) = H8 at s8 L8 hR8 ⊢
          clear u8 nT L hR sc
          have hg8 : H8 bg = some (.tup (g.map nv)) := s8 _ _ (eg c bg g hbg hg)
          have ha8 := L8.fe i a x ha hx
          refine ⟨_, rfl, _, rfl, pf, as.map V.ref, _, .ref a, rfl, rfl, SqL.of L8.f, atI_nat (get_map ha), a, rfl, ⟨_, SqT.of ha8⟩, fun D nD => ?_⟩
          refine lc_tup (K := K) (a := a) (xs := x.map nv) (fun j Hd => But D H8 Hd ∧ Hd D = some (.lst (((x.take j).map fun i => g.getD i 0).map nv))) ⟨But.upd, upd_same⟩ (fun j Hd _ ⟨bd, _⟩ => Lf.SqT.same (Same.but (L2.Same.refl _) nD bd) (SqT.of ha8)) (fun j z Hd hz ⟨bd, hD⟩ => ?_) (fun Hd ⟨bd, hD⟩ => ?_)
          · obtain ⟨xi, hxi, rfl⟩ := map_get hz
            refine ⟨rfl, yesT ?_⟩
            have sd := Same.but (L2.Same.refl _) nD bd
            obtain ⟨e, he⟩ := lt_get (show xi < g.length by rw [vg.1]; exact vx.2 xi (List.mem_of_getElem? hxi))
            refine ⟨_, rfl, _, rfl, bg, g.map nv, _, nv e, rfl, rfl, SqT.of (sd _ _ hg8), atI_nat (get_map he), ?_⟩
            refine ⟨_, hD, ?_, But.trans bd But.upd, ?_⟩
            · rw [List.length_map, List.length_map, List.length_take]
              have := vx.1
              show min j x.length < 16777216
              omega
            · rw [upd_same, take_snoc hxi, List.map_append, List.map_append, List.map_cons, List.map_nil, List.map_cons, List.map_nil, Mon.getD_of he]
          · rw [List.length_map, List.take_length] at hD
            have sd := Same.but (L2.Same.refl _) nD bd
            refine ⟨D, _, rfl, .inl ⟨SqL.of hD, fun N nN => ?_⟩⟩
            have u9 := sd.trans (same_upd (o := .tup ((x.map fun i => g.getD i 0).map nv)) nN)
            have hN : L2.upd Hd N (.tup ((x.map fun i => g.getD i 0).map nv)) N = some (.tup ((kt (Mon.comp x g)).map kV)) := by rw [kt_map]; exact upd_same
            generalize L2.upd Hd N (.tup ((x.map fun i => g.getD i 0).map nv)) = H9 at u9 hN ⊢
            have s9 := s8.trans u9
            have L9 := L8.same u9
            have hR9 := u9 _ _ hR8
            have hNn : H9 N = some (.tup ((Mon.comp x g).map nv)) := by rw [hN, kt_map]
            clear hD bd sd nN u9 s8 L8 hR8 hg8 ha8
            have f1 := B.few
            have f2 : n ^ n ≤ 256 := by
              have : n = 1 ∨ n = 2 ∨ n = 3 ∨ n = 4 := by omega
              rcases this with rfl | rfl | rfl | rfl <;> decide
            have rl : (row.map nv).length < 16777216 := by rw [List.length_map, B.rlen]; have := get_lt hg; omega
            refine ⟨_, rfl, _, rfl, pn, _, rfl, DGet.t L9.d hN, _, rfl, ?_⟩
            by_cases hm : Mon.comp x g ∈ found
            · obtain ⟨t, ht⟩ := List.getElem?_of_mem hm
              have hv : valV (dtab found) (kt (Mon.comp x g)) = some (nv t) := by
                have := dtabF_some (k := 0) B.nd ht
                rwa [Nat.zero_add] at this
              rw [hv]
              refine ifF rfl ?_
              refine ⟨_, rfl, .inl ⟨rfl, _, SqL.of hR9⟩, _, rfl, _, rfl, pn, nv t, rfl, hv ▸ DGet.t L9.d hN, pr, row.map nv, _, rfl, rfl, hR9, rl, _, _, _, rfl, fun b o e => ?_, as, found, m, row ++ [t], L9.off hR9 np nb, B.old hx hg ht, ?_, il⟩
              · rw [upd_ne (ne_of_none e nr0)]
                exact s9 b o e
              · rw [upd_same, List.map_append]
                rfl
            · have hv : valV (dtab found) (kt (Mon.comp x g)) = none := dtabF_none hm
              rw [hv]
              refine ifT rfl ?_
              obtain ⟨wd, hwd⟩ := lt_get (show i < (Mon.wordTab m).length by rw [Mon.word_len, B.mlen]; exact il)
              have lwd := word_short (List.mem_of_getElem? hwd)
              have ml := B.mlen
              obtain ⟨e1, e2, e3⟩ := L9.gn
              have epr : pr ≠ pn := fun z => by
                have := L9.d
                rw [← z, hR9] at this
                cases this
              refine ⟨_, rfl, pf, as.map V.ref, rfl, .inl (SqL.of L9.f), _, rfl, _, rfl, pn, _, rfl, DPut.t L9.d hN (by rw [dtabF_len]; show found.length < 16777216; omega), ?_⟩
              rw [List.length_map, L9.fl, dtab_put hm]
              have hf10 : L2.upd H9 pn (.dT (dtab (found ++ [Mon.comp x g]))) pf = some (.lst (as.map V.ref)) := by rw [upd_ne e1.symm]; exact L9.f
              have hw11 : L2.upd (L2.upd H9 pn (.dT (dtab (found ++ [Mon.comp x g])))) pf (.lst (as.map V.ref ++ [.ref N])) pw = some (.lst ((Mon.wordTab m).map wv)) := by rw [upd_ne L9.n1.symm, upd_ne e2.symm]; exact L9.w
              refine ⟨_, rfl, .inl ⟨rfl, _, SqL.of hf10⟩, _, rfl, pf, as.map V.ref, _, rfl, rfl, hf10, (by rw [List.length_map, L9.fl]; show found.length < 16777216; omega), ?_⟩
              refine ⟨_, rfl, .inl ⟨rfl, _, SqL.of hw11⟩, _, rfl, _, rfl, pw, _, _, wv wd, rfl, rfl, SqL.of hw11, atI_nat (get_map hwd), _, rfl, ws wd, ⟨#[cc]⟩, rfl, rfl, (by rw [ws_len]; show wd.length + 1 ≤ 16777216; omega), pw, (Mon.wordTab m).map wv, _, rfl, rfl, hw11, (by rw [List.length_map, Mon.word_len]; show m.length + 1 < 16777216; omega), ?_⟩
              have B2 := B.new hx hg hm
              have L12 : Lay (L2.upd (L2.upd (L2.upd H9 pn (.dT (dtab (found ++ [Mon.comp x g])))) pf (.lst (as.map V.ref ++ [.ref N]))) pw (.lst ((Mon.wordTab m).map wv ++ [.str (ws wd ++ (⟨#[cc]⟩ : Str))]))) pf pw pt pn (as ++ [N]) bs (found ++ [Mon.comp x g]) (Mon.wordTab (m ++ [(i, c)])) rows := by
                have q := L9.add (wd := wd ++ [c]) hNn
                rw [Mon.word_snoc, Mon.wordStep, Mon.getD_of hwd, cc6, ws_app]
                simp only [List.map_append, List.map_cons, List.map_nil] at q
                exact q
              have hR12 : L2.upd (L2.upd (L2.upd H9 pn (.dT (dtab (found ++ [Mon.comp x g])))) pf (.lst (as.map V.ref ++ [.ref N]))) pw (.lst ((Mon.wordTab m).map wv ++ [.str (ws wd ++ (⟨#[cc]⟩ : Str))])) pr = some (.lst (row.map nv)) := by
                rw [upd_ne np.2.1, upd_ne np.1, upd_ne epr]
                exact hR9
              have hN12 : L2.upd (L2.upd (L2.upd H9 pn (.dT (dtab (found ++ [Mon.comp x g])))) pf (.lst (as.map V.ref ++ [.ref N]))) pw (.lst ((Mon.wordTab m).map wv ++ [.str (ws wd ++ (⟨#[cc]⟩ : Str))])) N = some (.tup ((kt (Mon.comp x g)).map kV)) := by
                rw [upd_ne (fun z => by rw [z, L9.w] at hN; cases hN), upd_ne (fun z => by rw [z, L9.f] at hN; cases hN), upd_ne (fun z => by rw [z, L9.d] at hN; cases hN)]
                exact hN
              have s12 : Same H (L2.upd (L2.upd (L2.upd H9 pn (.dT (dtab (found ++ [Mon.comp x g])))) pf (.lst (as.map V.ref ++ [.ref N]))) pw (.lst ((Mon.wordTab m).map wv ++ [.str (ws wd ++ (⟨#[cc]⟩ : Str))]))) := fun b o e => by
                rw [upd_ne (ne_of_none e hpw0), upd_ne (ne_of_none e hpf0), upd_ne (ne_of_none e hn0)]
                exact s9 b o e
              generalize L2.upd (L2.upd (L2.upd H9 pn (.dT (dtab (found ++ [Mon.comp x g])))) pf (.lst (as.map V.ref ++ [.ref N]))) pw (.lst ((Mon.wordTab m).map wv ++ [.str (ws wd ++ (⟨#[cc]⟩ : Str))])) = H12 at L12 hR12 hN12 s12 ⊢
              have hv2 : valV (dtab (found ++ [Mon.comp x g])) (kt (Mon.comp x g)) = some (nv found.length) := by
                have := dtabF_some (k := 0) (i := found.length) B2.nd (by rw [List.getElem?_append_right (Nat.le_refl _), Nat.sub_self]; rfl)
                rwa [Nat.zero_add] at this
              refine ⟨_, rfl, .inl ⟨rfl, _, SqL.of hR12⟩, _, rfl, _, rfl, pn, nv found.length, rfl, hv2 ▸ DGet.t L12.d hN12, pr, row.map nv, _, rfl, rfl, hR12, rl, _, _, _, rfl, fun b o e => ?_, as ++ [N], _, _, row ++ [found.length], L12.off hR12 np nb, B2, ?_, by rw [List.length_append]; omega⟩
              · rw [upd_ne (ne_of_none e nr0)]
                exact s12 b o e
              · rw [upd_same, List.map_append]
                rfl
        · subst eσ
          have gl : (gs.map V.ref).length = gens.length := by rw [List.length_map, lg]
          rw [gl] at B
          obtain ⟨x, hx⟩ := lt_get il
          refine ⟨_, rfl, .inl ⟨rfl, _, SqL.of L.t⟩, _, rfl, pt, bs.map V.ref, _, rfl, rfl, L.t, by rw [List.length_map, L.tl, B.len]; show i < 16777216; omega, _, _, _, _, _, rfl, fun b o e => ?_, as, bs ++ [pr], found, rows ++ [row], m, ?_, B.next rfl (by omega) hx, fun b hb => ?_⟩
          · rw [upd_ne (ne_of_none e nf0.2.2)]
            exact sc b o e
          · have := L.row hR np
            rw [List.map_append] at this
            exact this
          · rcases List.mem_append.mp hb with z | z
            · exact fr b z
            · rw [List.mem_singleton.mp z]
              exact nr0
    · exfalso
      have f1 := B.few
      have f2 : n ^ n ≤ 256 := by
        have : n = 1 ∨ n = 2 ∨ n = 3 ∨ n = 4 := by omega
        rcases this with rfl | rfl | rfl | rfl <;> decide
      have := B.le
      omega
end
end K16

set_option Elab.async false
set_option linter.all false
set_option maxRecDepth 100000
set_option maxHeartbeats 8000000
namespace K16
open PySem PySem.Spec PyProof.Rows L2 Lf
abbrev fdm (found : List (List Nat)) (k : Nat) : List Nat := found.getD k []
/-- what the search the other way round has found -/
structure OLay (H : Hp) (pf pt pn : Addr) (as bs : List Addr) (kn : List Nat) (found R : List (List Nat)) : Prop where
  f : H pf = some (.lst (as.map V.ref))
  fl : as.length = kn.length
  fe : ∀ (j : Nat) a x, as[j]? = some a → kn[j]? = some x → H a = some (.tup ((fdm found x).map nv))
  t : H pt = some (.lst (bs.map V.ref))
  te : ∀ (j : Nat) b row, bs[j]? = some b → R[j]? = some row → H b = some (.tup (row.map nv))
  d : H pn = some (.dT (dtab (kn.map (fdm found))))
  n1 : pf ≠ pt
theorem OLay.same {H H' : Hp} {pf pt pn : Addr} {as bs : List Addr} {kn : List Nat} {found R : List (List Nat)} (h : OLay H pf pt pn as bs kn found R) (e : Same H H') : OLay H' pf pt pn as bs kn found R :=
  ⟨e _ _ h.f, h.fl, fun j a x g1 g2 => e _ _ (h.fe j a x g1 g2), e _ _ h.t, fun j b row g1 g2 => e _ _ (h.te j b row g1 g2), e _ _ h.d, h.n1⟩
section
variable {n : Nat} {gens found rows : List (List Nat)} {m : List (Nat × Nat)}
theorem fdm_inj (T : Mon.Tab n gens found rows) {x y : Nat} (hx : x < found.length) (hy : y < found.length) (e : fdm found x = fdm found y) : x = y := by
  obtain ⟨a, ha⟩ := lt_get hx
  obtain ⟨b, hb⟩ := lt_get hy
  rw [fdm, fdm, Mon.getD_of ha, Mon.getD_of hb] at e
  subst e
  exact Mon.nodup_at T.nd ha hb
theorem fdm_nd (T : Mon.Tab n gens found rows) {l : List Nat} (nd : l.Nodup) (h : ∀ x ∈ l, x < found.length) : (l.map (fdm found)).Nodup := by
  rw [List.Nodup, List.pairwise_map]
  exact nd.imp_of_mem fun {a b} ha hb hab e => hab (fdm_inj T (h a ha) (h b hb) e)
theorem fdm_mem (T : Mon.Tab n gens found rows) {l : List Nat} (h : ∀ x ∈ l, x < found.length) {x : Nat} (hx : x < found.length) : fdm found x ∈ l.map (fdm found) ↔ x ∈ l := by
  constructor
  · intro q
    obtain ⟨y, hy, e⟩ := List.mem_map.mp q
    rw [← fdm_inj T (h y hy) hx e]
    exact hy
  · exact fun q => List.mem_map.mpr ⟨x, q, rfl⟩
/-- a letter in front of an element -/
theorem front (T : Mon.Tab n gens found rows) (g1 : gens ≠ []) (hm : Mon.madeTab 0 rows [] = some m) {k c : Nat} {l : List Nat} {t : Nat} {g : List Nat} (hl : (Mon.leftTab rows m)[k]? = some l) (ht : l[c]? = some t) (hg : gens[c]? = some g) : Mon.comp g (fdm found k) = fdm found t := by
  obtain ⟨_, q⟩ := Mon.left_ok T g1 m (fun k p h => Mon.madeTab_lt hm h) k l hl
  obtain ⟨g', x, e1, e2, e3⟩ := q c t ht
  rw [hg] at e1
  cases e1
  rw [fdm, fdm, Mon.getD_of e2, Mon.getD_of e3]
end
abbrev NOl : List Str := ["_law_rows", "_law_found", "_law_table_here", "_law_numbers", "_law_at", "_law_row", "_law_other", "_law_product", "_law_image"]
abbrev teOl (K : PySem.W.Frag) : TE := tOp (rIxT K) (tOp (rIxL K) (tVar 1) (tVar 4)) (tVar 8)
def spOL (K : PySem.W.Frag) : Sp := fun vs H Q _ => ∃ r n gens found rows m, vs = [.ref r] ∧ Maps H r gens ∧ gens ≠ [] ∧ gens.length ≤ 6 ∧ 1 ≤ n ∧ n ≤ 4 ∧ Mon.Tab n gens found rows ∧ Ass.Md rows gens.length m ∧ found.length ≤ 256 ∧
  ∀ (T pf pt : Addr) (as bs : List Addr) H', Same H H' → H' T = some (.tup [.ref pf, .ref pt]) → H' pf = some (.lst (as.map V.ref)) → as.length = rows.length → (∀ (j : Nat) a x, as[j]? = some a → (Ass.O rows m)[j]? = some x → H' a = some (.tup ((fdm found x).map nv))) →
    H' pt = some (.lst (bs.map V.ref)) → bs.length = rows.length → (∀ (j : Nat) b row, bs[j]? = some b → (Ass.opp rows m)[j]? = some row → H' b = some (.tup (row.map nv))) → Q (.ref T) H'
section
variable {P : Program} {w : World} {K : PySem.W.Frag} {mg : Str → Option Value} {base : Heap}
theorem scOl : FnScope NOl ["_law_rows"] (defScope s_L_opposite) := ⟨rfl, rfl, rfl, by decide +kernel, rfl, by decide +kernel, by decide +kernel⟩
theorem ok_ol {f : Addr} {fd : FuncData} {q : Str} (F : FunD K "_law_opposite" q (defArgs s_L_opposite) (defBody s_L_opposite) (defScope s_L_opposite) [] [] f fd) (zr : mg "range" = none) (zt : mg "tuple" = none) (zn : mg "len" = none) :
    FnOk P w K mg base CX0 1 f fd ["_law_rows"] (spOL K) := by
  refine F.ok scOl (fun vs H Q E h => ?_) (fun cdv A outer s H vs Q E hr h => ?_)
  · obtain ⟨r, n, gens, found, rows, m, rfl, _⟩ := h
    rfl
  · obtain ⟨r, n, gens, found, rows, m, rfl, MP, ne, g6, n1, n4, TB, MD, f256, k⟩ := h
    have hu : (A.deeper (envOfC q (defScope s_L_opposite) s.heap.objs.size f cdv)).units + 1 < cLine := by have := hr.units; omega
    refine ⟨_, PSs.nox (pss_cons (ps_asg (pe_tup (pa_cons (pe_lst (pa_cons (pe_tupRg rfl rfl zt (prg_1 rfl zr (pe_callB call_len_seq rfl zn boot_len (pa_cons (pe_ix ix_list (pv 0) pe_int (fun _ _ => rfl)) pa_nil)))) pa_nil)) (pa_cons (pe_lst pa_nil) pa_nil))) (pg_tup rfl (pgs_cons (pg_name (i := 1) scOl.nd rfl (.inr rfl)) (pgs_cons (pg_name (i := 2) scOl.nd rfl (.inl rfl)) pgs_nil))))
      (pss_cons (ps_set (i := 3) scOl.nd rfl (.inl rfl) (pe_dispT1 hu (pe_ix ix_list (pv 1) pe_int (fun _ _ => rfl)) pe_int))
      (pss_cons (ps_for PassesOwn.never rfl (pi_range1 rfl zr (pa_cons pe_int pa_nil)) (pg_name (i := 4) scOl.nd rfl (.inr rfl))
        (pss_cons (ps_if (pt_cmpR op_ge (pv 4) (pe_callB call_len_seq rfl zn boot_len (pa_cons (pv 1) pa_nil)) (nomark _)) (pss_one (ps_ret (pe_tup (pa_cons (pv 1) (pa_cons (pv 2) pa_nil))))) pss_nil)
        (pss_cons (ps_set (i := 5) scOl.nd rfl (.inl rfl) (pe_lst pa_nil))
        (pss_cons (ps_for PassesOwn.never rfl (pi_list (pv 0)) (pg_name (i := 6) scOl.nd rfl (.inl rfl))
          (pss_cons (ps_set (i := 7) scOl.nd rfl (.inl rfl) (pe_callTy call_tuple_of rfl zt PyProof.Rows.boot_tuple (pa_cons (pe_lc (own := [("_law_image", 8)]) (g := gName 8) (te := teOl K) (by rfl) scOl.nd (pi_tup (pv 6)) (blkOk_by (own := [("_law_image", 8)]) (N := NOl) (sc := defScope s_L_opposite) (by decide +kernel)) (fun _ _ _ _ _ => pg_name (i := 8) scOl.nd rfl (Or.inl rfl)) (fun _ _ _ _ _ => pts_nil)
              (fun _ _ _ _ _ => by exact pe_ix ix_tup (pe_ix ix_list (pv 1) (pv 4) (fun _ _ => rfl)) (pv 8) (fun _ _ => rfl))) pa_nil)))
          (pss_cons (ps_if (pt_cmp (pc_dnotin hu (pv 7) (pv 3)) (by rfl))
            (pss_cons (ps_dput hu (pv 3) (pv 7) (pe_callB call_len_seq rfl zn boot_len (pa_cons (pv 1) pa_nil)) rfl)
            (pss_one (ps_expr (pe_bm PySem.F.plainAttrs_list PySem.F.slot_list_append PySem.F.type_list_append mt_append (pv 1) (pa_cons (pv 7) pa_nil))))) pss_nil)
          (pss_one (ps_expr (pe_bm PySem.F.plainAttrs_list PySem.F.slot_list_append PySem.F.type_list_append mt_append (pv 5) (pa_cons (pe_dget hu (pv 3) (pv 7) (fun _ _ => rfl)) pa_nil)))))))
        (pss_one (ps_expr (pe_bm PySem.F.plainAttrs_list PySem.F.slot_list_append PySem.F.type_list_append mt_append (pv 2) (pa_cons (pe_callTy call_tuple_of rfl zt PyProof.Rows.boot_tuple (pa_cons (pv 5) pa_nil)) pa_nil))))))))
      (pss_one (ps_ret (pe_tup (pa_cons (pv 1) (pa_cons (pv 2) pa_nil)))))))), ?_⟩
    obtain ⟨gs, hr0, lg, eg⟩ := MP.ex
    have n0 : 0 < gens.length := List.length_pos_iff.mpr ne
    obtain ⟨a0, ha0⟩ := lt_get (show 0 < gs.length by omega)
    obtain ⟨g0, hg0⟩ := lt_get n0
    have gv := TB.gval
    have v0 := gv g0 (List.mem_of_getElem? hg0)
    have rl := TB.len
    have hm := MD.made
    have RF := MD.rf
    have f00 : fdm found 0 = Mon.idm n := Mon.getD_of TB.head
    refine ⟨_, rfl, r, gs.map V.ref, 0, .ref a0, rfl, rfl, SqL.of hr0, atI_nat (j := 0) (get_map ha0), a0, g0.map nv, rfl, .inr (SqT.of (eg 0 a0 g0 ha0 hg0)), (n : Nat), by rw [List.length_map, v0.1], ?_⟩
    refine ⟨⟨by decide, by decide, by omega, by omega, by omega⟩, fun i0 ni0 => ?_⟩
    rw [rgV_nv]
    have s1 := same_upd (o := .tup ((Mon.idm n).map nv)) ni0
    have h1 : L2.upd H i0 (.tup ((Mon.idm n).map nv)) i0 = some (.tup ((Mon.idm n).map nv)) := upd_same
    generalize L2.upd H i0 (.tup ((Mon.idm n).map nv)) = H1 at s1 h1 ⊢
    refine ⟨(by show 1 ≤ sizeLine; decide), fun pf nf => ⟨(by show 0 ≤ sizeLine; decide), fun pt nt => ⟨(by show 2 ≤ sizeLine; decide), fun T0 nT0 => ?_⟩⟩⟩
    have hpf0 : H pf = none := nil_of s1 nf
    have hf2 : L2.upd H1 pf (.lst [.ref i0]) pf = some (.lst ([i0].map V.ref)) := upd_same
    have s2 := s1.trans (same_upd (o := .lst [.ref i0]) nf)
    have h2 := same_upd (o := .lst [.ref i0]) nf _ _ h1
    generalize L2.upd H1 pf (.lst [.ref i0]) = H2 at s2 h2 hf2 nt nT0 ⊢
    have hpt0 : H pt = none := nil_of s2 nt
    have npp : pf ≠ pt := ne_of_none hf2 nt
    have ht3 : L2.upd H2 pt (.lst []) pt = some (.lst (([] : List Addr).map V.ref)) := upd_same
    have u3 := same_upd (o := .lst []) nt
    have s3 := s2.trans u3
    have h3 := u3 _ _ h2
    have hf3 := u3 _ _ hf2
    generalize L2.upd H2 pt (.lst []) = H3 at s3 h3 hf3 ht3 nT0 ⊢
    have u4 := same_upd (o := .tup [.ref pf, .ref pt]) nT0
    refine ⟨T0, _, rfl, SqT.of upd_same, rfl, _, _, rfl, _, _, rfl, rfl, ?_⟩
    have s4 := s3.trans u4
    have h4 := u4 _ _ h3
    have hf4 := u4 _ _ hf3
    have ht4 := u4 _ _ ht3
    generalize L2.upd H3 T0 (.tup [.ref pf, .ref pt]) = H4 at s4 h4 hf4 ht4 ⊢
    clear u3 u4 s1 s2 s3 h1 h2 h3 hf2 hf3 ht3 nf nt nT0
    intro pn nn
    have hn0 : H pn = none := nil_of s4 nn
    have u5 := same_upd (o := .dT []) nn
    have s5 := s4.trans u5
    have h5 := u5 _ _ h4
    have hf5 := u5 _ _ hf4
    have ht5 := u5 _ _ ht4
    have hn5 : L2.upd H4 pn (.dT []) pn = some (.dT []) := upd_same
    generalize L2.upd H4 pn (.dT []) = H5 at s5 h5 hf5 ht5 hn5 ⊢
    refine ⟨_, rfl, pf, _, 0, .ref i0, rfl, rfl, SqL.of hf5, rfl, kt (Mon.idm n), i0, _, hn5, rfl, by rw [kt_map]; exact h5, rfl, ?_⟩
    have s6 : Same H (L2.upd H5 pn (.dT [(kt (Mon.idm n), .int 0)])) := fun b o e => by
      rw [upd_ne (ne_of_none e hn0)]
      exact s5 b o e
    have L0 : OLay (L2.upd H5 pn (.dT [(kt (Mon.idm n), .int 0)])) pf pt pn [i0] [] [0] found (Ass.opp rows m) := by
      have e1 : pn ≠ pf := fun z => by rw [z, hf5] at hn5; cases hn5
      have e3 : pn ≠ pt := fun z => by rw [z, ht5] at hn5; cases hn5
      refine ⟨by rw [upd_ne e1.symm]; exact hf5, rfl, fun j a x g1 g2 => ?_, by rw [upd_ne e3.symm]; exact ht5, fun j b row g1 g2 => (by simp at g1), by rw [upd_same, List.map_cons, List.map_nil, f00]; rfl, npp⟩
      cases j with
      | zero =>
        cases g1
        cases g2
        rw [upd_ne (fun z => by rw [z, hn5] at h5; cases h5), f00]
        exact h5
      | succ j => simp at g1
    generalize L2.upd H5 pn (.dT [(kt (Mon.idm n), .int 0)]) = H6 at s6 L0 ⊢
    clear s5 h5 hf5 ht5 hn5 hf4 ht4 h4 u5 s4 nn
    have kl : ∀ i, ∀ x ∈ Reach.known (Mon.leftTab rows m) 0 i, x < found.length := fun i x hx => by
      have := Reach.known_lt RF hx
      rw [MD.left_len, rl] at this
      exact this
    have ol : (Reach.ord (Mon.leftTab rows m) 0).length = rows.length := MD.olen
    refine ⟨3000, rfl, by decide, by decide, for_range (lo := 0) (n := 3000) (fun i σ Hn => ∃ v4 v5 v6 v7 : Option V, σ = [some (.ref r), some (.ref pf), some (.ref pt), some (.ref pn), v4, v5, v6, v7, none] ∧ Same H Hn ∧ i ≤ rows.length ∧ ∃ as bs, OLay Hn pf pt pn as bs (Reach.known (Mon.leftTab rows m) 0 i) found (Ass.opp rows m) ∧ bs.length = i)
      ⟨none, none, none, none, rfl, s6, Nat.zero_le _, [i0], [], L0, rfl⟩ (fun i σ Hn hi ⟨v4, v5, v6, v7, eσ, sn, iN, as, bs, L, lb⟩ => ?_) (fun σ Hn ⟨v4, v5, v6, v7, eσ, sn, iN, _⟩ => ?_)⟩
    · subst eσ
      have ei : (0 : Int) + (i : Nat) = (i : Nat) := by omega
      rw [ei]
      refine ⟨_, rfl, _, rfl, pf, as.map V.ref, rfl, .inl (SqL.of L.f), _, _, rfl, rfl, _, rfl, ?_⟩
      rw [List.length_map, L.fl]
      by_cases il : i < (Reach.known (Mon.leftTab rows m) 0 i).length
      case neg =>
        refine ifT (decide_eq_true (by omega)) ?_
        have le : (Reach.known (Mon.leftTab rows m) 0 i).length ≤ i := by omega
        have eO : Reach.known (Mon.leftTab rows m) 0 i = Ass.O rows m := (Reach.ord_eq le (by rw [MD.left_len]; exact iN)).symm
        have iN' : i = rows.length := by
          have : (Ass.O rows m).length = rows.length := ol
          rw [← eO] at this
          omega
        refine ⟨_, rfl, _, rfl, (by show 2 ≤ sizeLine; decide), fun T nT => ?_⟩
        have u := same_upd (o := .tup [.ref pf, .ref pt]) nT
        have L1 := L.same u
        rw [eO] at L1
        exact k T pf pt as bs _ (sn.trans u) upd_same L1.f (by rw [L1.fl]; exact ol) L1.fe L1.t (by omega) L1.te
      refine ifF (decide_eq_false (by omega)) ⟨(by show 0 ≤ sizeLine; decide), fun pr nr => ?_⟩
      obtain ⟨a, hka⟩ := lt_get il
      have hO : (Reach.ord (Mon.leftTab rows m) 0)[i]? = some a := Reach.pre_get (Reach.known_pre (by rw [MD.left_len]; exact iN)) hka
      have iO : i < rows.length := by rw [← ol]; exact get_lt hO
      have aN : a < found.length := kl i a (List.mem_of_getElem? hka)
      obtain ⟨l, hl⟩ := lt_get (show a < (Mon.leftTab rows m).length by rw [MD.left_len, rl]; exact aN)
      have lr := MD.left_row hl
      have ek := Reach.known_at hka
      rw [Mon.getD_of hl] at ek
      have eR : (Ass.opp rows m)[i]? = some (l.map (Ass.tn rows m)) := by
        unfold Ass.opp Reach.renum
        rw [List.getElem?_map, hO]
        show some (List.map _ ((Mon.leftTab rows m).getD a [])) = _
        rw [Mon.getD_of hl]
        rfl
      have np : pr ≠ pf ∧ pr ≠ pt ∧ pr ≠ pn := ⟨(ne_of_none L.f nr).symm, (ne_of_none L.t nr).symm, (ne_of_none L.d nr).symm⟩
      have u := same_upd (o := .lst []) nr
      have L1 := L.same u
      have s7 := sn.trans u
      have hr7 : L2.upd Hn pr (.lst []) pr = some (.lst (([] : List Nat).map nv)) := upd_same
      have nr0 : H pr = none := nil_of sn nr
      generalize L2.upd Hn pr (.lst []) = H7 at L1 s7 hr7 ⊢
      clear L nr u sn
      refine ⟨_, rfl, r, rfl, ⟨_, SqL.of (s7 _ _ hr0)⟩, ?_⟩
      refine for_list (K := K) (a := r) (xs := gs.map V.ref) (fun c σ Hc => ∃ v6 v7 : Option V, σ = [some (.ref r), some (.ref pf), some (.ref pt), some (.ref pn), some (.int (i : Nat)), some (.ref pr), v6, v7, none] ∧ Same H Hc ∧ ∃ as, OLay Hc pf pt pn as bs (Reach.grow (Reach.known (Mon.leftTab rows m) 0 i) (l.take c)) found (Ass.opp rows m) ∧ Hc pr = some (.lst (((l.take c).map (Ass.tn rows m)).map nv)))
        ⟨_, _, rfl, s7, as, L1, hr7⟩ (fun c σ Hc _ ⟨_, _, _, s, _⟩ => SqL.of (s _ _ hr0)) (fun c z σ Hc hz ⟨v6, v7, eσ, sc, as, L, hR⟩ => ?_) (fun σ Hc ⟨v6, v7, eσ, sc, as, L, hR⟩ => ?_)
      · subst eσ
        obtain ⟨bg, hbg, rfl⟩ := map_get hz
        have cl : c < gens.length := by rw [← lg]; exact get_lt hbg
        obtain ⟨g, hg⟩ := lt_get cl
        obtain ⟨t, ht⟩ := lt_get (show c < l.length by rw [lr.1]; exact cl)
        have tN : t < found.length := by rw [← rl]; exact lr.2 t (List.mem_of_getElem? ht)
        have fr := front TB ne hm hl ht hg
        have vg := gv g (List.mem_of_getElem? hg)
        have hg8 : Hc bg = some (.tup (g.map nv)) := sc _ _ (eg c bg g hbg hg)
        obtain ⟨x, hx⟩ := lt_get aN
        have vx := TB.val x (List.mem_of_getElem? hx)
        have efx : fdm found a = x := Mon.getD_of hx
        generalize hkn : Reach.grow (Reach.known (Mon.leftTab rows m) 0 i) (l.take c) = kn at L
        have knl : ∀ x ∈ kn, x < found.length := fun x hx => by
          rw [← hkn] at hx
          rcases Reach.grow_mem.mp hx with h | h
          · exact kl i x h
          · rw [← rl]; exact lr.2 x (List.mem_of_mem_take h)
        have knd : kn.Nodup := by rw [← hkn]; exact Reach.grow_nd Reach.known_nd
        have kna : kn[i]? = some a := by
          rw [← hkn]
          exact Reach.pre_get Reach.grow_pre hka
        have gs' : Reach.grow (Reach.known (Mon.leftTab rows m) 0 i) (l.take (c + 1)) = Reach.put kn t := by rw [take_snoc ht, Reach.grow_snoc, hkn]
        have kpre : kn <+: Ass.O rows m := by
          rw [← hkn]
          have h1 : Reach.grow (Reach.known (Mon.leftTab rows m) 0 i) (l.take c) <+: Reach.grow (Reach.known (Mon.leftTab rows m) 0 i) l := by
            rw [← List.take_append_drop c l]
            unfold Reach.grow
            rw [List.foldl_append, List.take_left' (by rw [List.length_take]; have := get_lt ht; omega)]
            exact Reach.grow_pre
          rw [← ek] at h1
          exact h1.trans (Reach.known_pre (by rw [MD.left_len]; exact iO))
        obtain ⟨aa, haa⟩ := lt_get (show i < as.length by rw [L.fl]; exact get_lt kna)
        have haH := L.fe i aa a haa kna
        rw [efx] at haH
        refine ⟨_, rfl, bg, rfl, ⟨_, SqT.of hg8⟩, fun D nD => ?_⟩
        refine lc_tup (K := K) (a := bg) (xs := g.map nv) (fun j Hd => But D Hc Hd ∧ Hd D = some (.lst (((g.take j).map fun i => x.getD i 0).map nv))) ⟨But.upd, upd_same⟩ (fun j Hd _ ⟨bd, _⟩ => Lf.SqT.same (Same.but (L2.Same.refl _) nD bd) (SqT.of hg8)) (fun j z Hd hz ⟨bd, hD⟩ => ?_) (fun Hd ⟨bd, hD⟩ => ?_)
        · obtain ⟨gi, hgi, rfl⟩ := map_get hz
          refine ⟨rfl, yesT ?_⟩
          have sd := Same.but (L2.Same.refl _) nD bd
          obtain ⟨e, he⟩ := lt_get (show gi < x.length by rw [vx.1]; exact vg.2 gi (List.mem_of_getElem? hgi))
          refine ⟨_, rfl, _, rfl, pf, as.map V.ref, _, .ref aa, rfl, rfl, SqL.of (sd _ _ L.f), atI_nat (get_map haa), _, rfl, aa, x.map nv, _, nv e, rfl, rfl, SqT.of (sd _ _ haH), atI_nat (get_map he), ?_⟩
          refine ⟨_, hD, ?_, But.trans bd But.upd, ?_⟩
          · rw [List.length_map, List.length_map, List.length_take]
            have := vg.1
            show min j g.length < 16777216
            omega
          · rw [upd_same, take_snoc hgi, List.map_append, List.map_append, List.map_cons, List.map_nil, List.map_cons, List.map_nil, Mon.getD_of he]
        · rw [List.length_map, List.take_length] at hD
          have sd := Same.but (L2.Same.refl _) nD bd
          refine ⟨D, _, rfl, .inl ⟨SqL.of hD, fun N nN => ?_⟩⟩
          have efr : (g.map fun i => x.getD i 0) = fdm found t := by rw [← fr, efx]; rfl
          rw [efr]
          have u9 := sd.trans (same_upd (o := .tup ((fdm found t).map nv)) nN)
          have hN : L2.upd Hd N (.tup ((fdm found t).map nv)) N = some (.tup ((kt (fdm found t)).map kV)) := by rw [kt_map]; exact upd_same
          generalize L2.upd Hd N (.tup ((fdm found t).map nv)) = H9 at u9 hN ⊢
          have s9 := sc.trans u9
          have L9 := L.same u9
          have hR9 := u9 _ _ hR
          have hNn : H9 N = some (.tup ((fdm found t).map nv)) := by rw [hN, kt_map]
          clear hD bd sd nN u9 L hR haH hg8
          have rlen : (((l.take c).map (Ass.tn rows m)).map nv).length < 16777216 := by rw [List.length_map, List.length_map, List.length_take]; have := lr.1; show min c _ < 16777216; omega
          have knlen : kn.length ≤ 256 := Nat.le_trans (Reach.nd_len knd knl) f256
          refine ⟨_, rfl, _, rfl, pn, _, rfl, DGet.t L9.d hN, _, rfl, ?_⟩
          by_cases hmm : t ∈ kn
          · obtain ⟨ix, hix⟩ : ∃ ix, Reach.idx kn t = ix := ⟨_, rfl⟩
            have hk : kn[ix]? = some t := by rw [← hix]; exact Reach.idx_get hmm
            have htn : Ass.tn rows m t = ix := by rw [← hix]; exact Reach.idx_pre MD.nd kpre hmm
            have hv : valV (dtab (kn.map (fdm found))) (kt (fdm found t)) = some (nv ix) := by
              have := dtabF_some (k := 0) (fdm_nd TB knd knl) (show (kn.map (fdm found))[ix]? = some (fdm found t) from get_map hk)
              rwa [Nat.zero_add] at this
            rw [hv]
            refine ifF rfl ?_
            refine ⟨_, rfl, .inl ⟨rfl, _, SqL.of hR9⟩, _, rfl, _, rfl, pn, nv ix, rfl, hv ▸ DGet.t L9.d hN, pr, _, _, rfl, rfl, hR9, rlen, _, _, rfl, fun b o e => ?_, as, ?_, ?_⟩
            · rw [upd_ne (ne_of_none e nr0)]
              exact s9 b o e
            · rw [gs', Reach.put_in hmm]
              have ne' : ∀ {b : Addr} {o : HO}, H9 b = some o → (∀ xs, o ≠ .lst xs) → b ≠ pr := fun {b o} e hh z => by rw [z, hR9] at e; cases e; exact hh _ rfl
              exact ⟨by rw [upd_ne np.1.symm]; exact L9.f, L9.fl, fun j b y h1 h2 => by have q := L9.fe j b y h1 h2; rw [upd_ne (ne' q (fun _ z => nomatch z))]; exact q, by rw [upd_ne np.2.1.symm]; exact L9.t, fun j b row h1 h2 => by have q := L9.te j b row h1 h2; rw [upd_ne (ne' q (fun _ z => nomatch z))]; exact q, by rw [upd_ne np.2.2.symm]; exact L9.d, L9.n1⟩
            · rw [upd_same, take_snoc ht, List.map_append, List.map_append, ← htn]
              rfl
          · have hv : valV (dtab (kn.map (fdm found))) (kt (fdm found t)) = none := dtabF_none (fun q => hmm ((fdm_mem TB knl tN).mp q))
            rw [hv]
            refine ifT rfl ?_
            have epn : pn ≠ pf ∧ pn ≠ pt := ⟨(fun z => by have := L9.d; rw [z, L9.f] at this; cases this), (fun z => by have := L9.d; rw [z, L9.t] at this; cases this)⟩
            refine ⟨_, rfl, pf, as.map V.ref, rfl, .inl (SqL.of L9.f), _, rfl, _, rfl, pn, _, rfl, DPut.t L9.d hN (by rw [dtabF_len, List.length_map]; show kn.length < 16777216; omega), ?_⟩
            rw [List.length_map, L9.fl, show (V.int ((kn.length : Nat) : Int)) = V.int (((kn.map (fdm found)).length : Nat) : Int) by rw [List.length_map], dtab_put (fun q => hmm ((fdm_mem TB knl tN).mp q)), show kn.map (fdm found) ++ [fdm found t] = (kn ++ [t]).map (fdm found) by rw [List.map_append]; rfl]
            have hf10 : L2.upd H9 pn (.dT (dtab ((kn ++ [t]).map (fdm found)))) pf = some (.lst (as.map V.ref)) := by rw [upd_ne epn.1.symm]; exact L9.f
            refine ⟨_, rfl, .inl ⟨rfl, _, SqL.of hf10⟩, _, rfl, pf, as.map V.ref, _, rfl, rfl, hf10, (by rw [List.length_map, L9.fl]; show kn.length < 16777216; omega), ?_⟩
            have kt1 : ∀ {b : Addr} {xs : List V}, H9 b = some (.tup xs) → L2.upd (L2.upd H9 pn (.dT (dtab ((kn ++ [t]).map (fdm found))))) pf (.lst (as.map V.ref ++ [.ref N])) b = some (.tup xs) := fun {b xs} e => by
              rw [upd_ne (fun z => by rw [z, L9.f] at e; cases e), upd_ne (fun z => by rw [z, L9.d] at e; cases e)]
              exact e
            have L12 : OLay (L2.upd (L2.upd H9 pn (.dT (dtab ((kn ++ [t]).map (fdm found))))) pf (.lst (as.map V.ref ++ [.ref N]))) pf pt pn (as ++ [N]) bs (kn ++ [t]) found (Ass.opp rows m) := by
              refine ⟨by rw [upd_same, List.map_append]; rfl, by rw [List.length_append, List.length_append, L9.fl]; rfl, fun j b y h1 h2 => ?_, by rw [upd_ne L9.n1.symm, upd_ne epn.2.symm]; exact L9.t, fun j b row h1 h2 => kt1 (L9.te j b row h1 h2), by rw [upd_ne epn.1]; exact upd_same, L9.n1⟩
              by_cases hj : j < as.length
              · rw [List.getElem?_append_left hj] at h1
                rw [List.getElem?_append_left (by rw [← L9.fl]; exact hj)] at h2
                exact kt1 (L9.fe j b y h1 h2)
              · have := get_lt h1
                rw [List.length_append, List.length_singleton] at this
                have e : j = as.length := by omega
                subst e
                rw [List.getElem?_append_right (Nat.le_refl _), Nat.sub_self] at h1
                rw [List.getElem?_append_right (by rw [L9.fl]; exact Nat.le_refl _), L9.fl, Nat.sub_self] at h2
                cases h1
                cases h2
                exact kt1 hNn
            have hR12 : L2.upd (L2.upd H9 pn (.dT (dtab ((kn ++ [t]).map (fdm found))))) pf (.lst (as.map V.ref ++ [.ref N])) pr = some (.lst (((l.take c).map (Ass.tn rows m)).map nv)) := by
              rw [upd_ne np.1, upd_ne np.2.2]
              exact hR9
            have hN12 := kt1 hN
            have s12 : Same H (L2.upd (L2.upd H9 pn (.dT (dtab ((kn ++ [t]).map (fdm found))))) pf (.lst (as.map V.ref ++ [.ref N]))) := fun b o e => by
              rw [upd_ne (ne_of_none e hpf0), upd_ne (ne_of_none e hn0)]
              exact s9 b o e
            generalize L2.upd (L2.upd H9 pn (.dT (dtab ((kn ++ [t]).map (fdm found))))) pf (.lst (as.map V.ref ++ [.ref N])) = H12 at L12 hR12 hN12 s12 ⊢
            have knd2 : (kn ++ [t]).Nodup := by rw [← Reach.put_new hmm]; exact Reach.put_nd knd
            have knl2 : ∀ x ∈ kn ++ [t], x < found.length := fun x hx => by
              rcases List.mem_append.mp hx with h | h
              · exact knl x h
              · rw [List.mem_singleton.mp h]; exact tN
            have kpre2 : kn ++ [t] <+: Ass.O rows m := by
              rw [← Reach.put_new hmm, ← gs']
              have h1 : Reach.grow (Reach.known (Mon.leftTab rows m) 0 i) (l.take (c + 1)) <+: Reach.grow (Reach.known (Mon.leftTab rows m) 0 i) l := by
                rw [← List.take_append_drop (c + 1) l]
                unfold Reach.grow
                rw [List.foldl_append, List.take_left' (by rw [List.length_take]; have := get_lt ht; omega)]
                exact Reach.grow_pre
              rw [← ek] at h1
              exact h1.trans (Reach.known_pre (by rw [MD.left_len]; exact iO))
            have hkt : (kn ++ [t])[kn.length]? = some t := by rw [List.getElem?_append_right (Nat.le_refl _), Nat.sub_self]; rfl
            have htn : Ass.tn rows m t = kn.length := Reach.idx_at MD.nd (Reach.pre_get kpre2 hkt)
            have hv2 : valV (dtab ((kn ++ [t]).map (fdm found))) (kt (fdm found t)) = some (nv kn.length) := by
              have := dtabF_some (k := 0) (fdm_nd TB knd2 knl2) (show ((kn ++ [t]).map (fdm found))[kn.length]? = some (fdm found t) from get_map hkt)
              rwa [Nat.zero_add] at this
            refine ⟨_, rfl, .inl ⟨rfl, _, SqL.of hR12⟩, _, rfl, _, rfl, pn, nv kn.length, rfl, hv2 ▸ DGet.t L12.d hN12, pr, _, _, rfl, rfl, hR12, rlen, _, _, rfl, fun b o e => ?_, as ++ [N], ?_, ?_⟩
            · rw [upd_ne (ne_of_none e nr0)]
              exact s12 b o e
            · rw [gs', Reach.put_new hmm]
              have ne' : ∀ {b : Addr} {o : HO}, H12 b = some o → (∀ xs, o ≠ .lst xs) → b ≠ pr := fun {b o} e hh z => by rw [z, hR12] at e; cases e; exact hh _ rfl
              exact ⟨by rw [upd_ne np.1.symm]; exact L12.f, L12.fl, fun j b y h1 h2 => by have q := L12.fe j b y h1 h2; rw [upd_ne (ne' q (fun _ z => nomatch z))]; exact q, by rw [upd_ne np.2.1.symm]; exact L12.t, fun j b row h1 h2 => by have q := L12.te j b row h1 h2; rw [upd_ne (ne' q (fun _ z => nomatch z))]; exact q, by rw [upd_ne np.2.2.symm]; exact L12.d, L12.n1⟩
            · rw [upd_same, take_snoc ht, List.map_append, List.map_append, ← htn]
              rfl
      · subst eσ
        have gl : (gs.map V.ref).length = l.length := by rw [List.length_map, lg, lr.1]
        rw [gl, List.take_length] at L hR
        rw [← ek] at L
        refine ⟨_, rfl, .inl ⟨rfl, _, SqL.of L.t⟩, _, rfl, pr, _, rfl, .inl ⟨SqL.of hR, fun M nM => ?_⟩⟩
        have uM := same_upd (o := .tup ((l.map (Ass.tn rows m)).map nv)) nM
        have hM : L2.upd Hc M (.tup ((l.map (Ass.tn rows m)).map nv)) M = some (.tup ((l.map (Ass.tn rows m)).map nv)) := upd_same
        have L5 := L.same uM
        have s5 := sc.trans uM
        generalize L2.upd Hc M (.tup ((l.map (Ass.tn rows m)).map nv)) = H5 at hM L5 s5 ⊢
        refine ⟨pt, bs.map V.ref, _, rfl, rfl, L5.t, by rw [List.length_map, lb]; show i < 16777216; omega, _, _, _, _, rfl, fun b o e => ?_, iO, as, bs ++ [M], ?_, by rw [List.length_append, lb]; rfl⟩
        · rw [upd_ne (ne_of_none e hpt0)]
          exact s5 b o e
        · have kt1 : ∀ {b : Addr} {xs : List V}, H5 b = some (.tup xs) → L2.upd H5 pt (.lst (bs.map V.ref ++ [.ref M])) b = some (.tup xs) := fun {b xs} e => by
            rw [upd_ne (fun z => by rw [z, L5.t] at e; cases e)]
            exact e
          refine ⟨by rw [upd_ne L5.n1]; exact L5.f, L5.fl, fun j b y h1 h2 => kt1 (L5.fe j b y h1 h2), by rw [upd_same, List.map_append]; rfl, fun j b row h1 h2 => ?_, by rw [upd_ne (fun z => by have := L5.d; rw [z, L5.t] at this; cases this)]; exact L5.d, L5.n1⟩
          by_cases hj : j < bs.length
          · rw [List.getElem?_append_left hj] at h1
            exact kt1 (L5.te j b row h1 h2)
          · have := get_lt h1
            rw [List.length_append, List.length_singleton] at this
            have e : j = bs.length := by omega
            subst e
            rw [List.getElem?_append_right (Nat.le_refl _), Nat.sub_self] at h1
            cases h1
            rw [lb, eR] at h2
            cases h2
            exact kt1 hM
    · exfalso
      have : rows.length ≤ 256 := by rw [rl]; exact f256
      omega
end
end K16

set_option Elab.async false
set_option linter.all false
set_option maxRecDepth 100000
set_option maxHeartbeats 8000000
namespace K16
open PySem PySem.Spec PyProof.Rows L2 Lf
def spWords (K : PySem.W.Frag) : Sp := fun vs H Q _ => ∃ p rows m wd, vs = [.ref p] ∧ Mo K H p rows m ∧ Form rows wd ∧ Mon.madeTab 0 rows [] = some m ∧ m.length ≤ 2000 ∧ ∀ l H', Same H H' → H l = none → H' l = some (.lst ((Mon.wordTab m).map wv)) → Q (.ref l) H'
theorem letter_of {c : Nat} (h : c < 6) : atI ("abcdef" : Str).cps.toList ((c : Nat) : Int) = some (97 + c) := by
  have : c = 0 ∨ c = 1 ∨ c = 2 ∨ c = 3 ∨ c = 4 ∨ c = 5 := by omega
  rcases this with rfl | rfl | rfl | rfl | rfl | rfl <;> decide +kernel
section
variable {P : Program} {w : World} {K : PySem.W.Frag} {mg : Str → Option Value} {base : Heap}
theorem scWords : FnScope ["self", "found", "before", "letter"] ["self"] (defScope s_Monoid_words) := ⟨rfl, rfl, rfl, by decide +kernel, rfl, by decide +kernel, by decide +kernel⟩
theorem ok_words {f : Addr} {fd : FuncData} {q : Str} (F : FunD K "words" q (defArgs s_Monoid_words) (defBody s_Monoid_words) (defScope s_Monoid_words) [] [] f fd) (T : Txt P w K mg base) :
    FnOk P w K mg base CX0 1 f fd ["self"] (spWords K) := by
  have cl : L2.Cls K (He.ga K "Monoid") := He.cls_ok (T.d.fact 49 (f := .cls "Monoid") rfl)
  have n2 : NoAttr K (He.ga K "Monoid") "_made" := He.noat_ok (T.d.fact 66 (f := .noat "Monoid" "_made") rfl)
  obtain ⟨tL, gL⟩ := T.st 33 "LETTERS" "abcdef" rfl
  refine F.ok scWords (fun vs H Q E h => ?_) (fun cdv A outer s H vs Q E hr h => ?_)
  · obtain ⟨p, rows, m, wd, rfl, _⟩ := h
    rfl
  · obtain ⟨p, rows, m, wd, rfl, M, FO, hm, m2, k⟩ := h
    refine ⟨_, PSs.nox (pss_cons (ps_set (i := 1) scWords.nd rfl (.inl rfl) (pe_lst (pa_cons pe_str pa_nil)))
      (pss_cons (ps_for PassesOwn.never rfl (pi_tup (pe_slice sl_tup (pe_fld (pv 0) rfl) (po_some pe_int) po_none)) (pg_tup rfl (pgs_cons (pg_name (i := 2) scWords.nd rfl (.inl rfl)) (pgs_cons (pg_name (i := 3) scWords.nd rfl (.inl rfl)) pgs_nil)))
        (pss_one (ps_expr (pe_bm PySem.F.plainAttrs_list PySem.F.slot_list_append PySem.F.type_list_append mt_append (pv 1) (pa_cons (pe_op op_add_str (pe_ix ix_list (pv 1) (pv 2) (fun _ _ => rfl)) (pe_ix ix_str (pe_gstr rfl gL) (pv 3) (fun _ _ => rfl))) pa_nil)))))
      (pss_one (ps_ret (pv 1))))), ?_⟩
    obtain ⟨dx, tr, u, v, hp, R, MM, _⟩ := id M.ex
    obtain ⟨ps, sm, lp, sp⟩ := MM.ex
    obtain ⟨f1, f2, f3, f4, f5⟩ := FO
    have hlt : ∀ (k : Nat) p, m[k]? = some p → p.1 < k + 1 ∧ p.2 < 6 := fun k p h => by
      obtain ⟨a, row, b, c⟩ := Mon.madeTab_lt hm h
      have := (f5 row (List.mem_of_getElem? b)).1
      have := get_lt c
      exact ⟨a, by omega⟩
    refine ⟨(by show 1 ≤ sizeLine; decide), fun B nB => ?_⟩
    have nB0 := nB
    have s1 := same_upd (o := .lst [V.str ("" : Str)]) nB
    have hB1 : L2.upd H B (.lst [V.str ("" : Str)]) B = some (.lst ((Mon.wordTab []).map wv)) := upd_same
    generalize L2.upd H B (.lst [V.str ("" : Str)]) = H1 at s1 hB1 ⊢
    refine ⟨_, rfl, p, _, dx, _, _, rfl, s1 _ _ hp, cl, n2, rfl, 1, rfl, u, _, rfl, Lf.SqT.same s1 sm, ?_, fun S nS => ⟨S, rfl, ⟨_, SqT.of upd_same⟩, ?_⟩⟩
    · rw [List.length_cons, sIx1]
      rintro ⟨z, _⟩
      exact absurd z (by decide)
    rw [cut1]
    have u2 := same_upd (o := .tup (ps.map V.ref)) nS
    have hS : L2.upd H1 S (.tup (ps.map V.ref)) S = some (.tup (ps.map V.ref)) := upd_same
    have s2 := s1.trans u2
    have hB2 := u2 _ _ hB1
    have nSB : S ≠ B := fun z => by rw [z, hB1] at nS; cases nS
    generalize L2.upd H1 S (.tup (ps.map V.ref)) = H2 at s2 hS hB2 ⊢
    clear u2 s1 hB1 nS
    refine for_tup (K := K) (a := S) (xs := ps.map V.ref) (fun i σ Hn => ∃ v2 v3 : Option V, σ = [some (.ref p), some (.ref B), v2, v3] ∧ Same H Hn ∧ Hn S = some (.tup (ps.map V.ref)) ∧ Hn B = some (.lst ((Mon.wordTab (m.take i)).map wv)))
      ⟨none, none, rfl, s2, hS, hB2⟩ (fun i σ Hn _ ⟨_, _, _, _, h, _⟩ => SqT.of h) (fun i x σ Hn hx ⟨v2, v3, eσ, sn, hSn, hBn⟩ => ?_) (fun σ Hn ⟨v2, v3, eσ, sn, hSn, hBn⟩ => ?_)
    · subst eσ
      obtain ⟨pa, hpa, rfl⟩ := map_get hx
      obtain ⟨pr, hpr⟩ := lt_get (show i < m.length by have := get_lt hpa; omega)
      have il := get_lt hpr
      have lk : (m.take i).length = i := by rw [List.length_take]; omega
      obtain ⟨b1, b2⟩ := hlt i pr hpr
      have lL : (Mon.wordTab (m.take i)).length = i + 1 := by rw [Mon.word_len, lk]
      obtain ⟨wp, hwp⟩ := lt_get (show pr.1 < (Mon.wordTab (m.take i)).length by omega)
      have lwp := word_short (List.mem_of_getElem? hwp)
      have eL : Mon.wordTab (m.take (i + 1)) = Mon.wordTab (m.take i) ++ [wp ++ [pr.2]] := by
        rw [take_snoc hpr, Mon.word_snoc, Mon.wordStep, Mon.getD_of hwp]
      rw [eL]
      generalize Mon.wordTab (m.take i) = L0 at hBn lL hwp lwp ⊢
      refine ⟨pa, _, rfl, Lf.SqT.same sn (sp i pa pr hpa hpr), rfl, _, _, rfl, _, _, rfl, rfl, ?_⟩
      refine ⟨_, rfl, .inl ⟨rfl, _, SqL.of hBn⟩, _, rfl, _, rfl, B, _, _, wv wp, rfl, rfl, SqL.of hBn, atI_nat (get_map hwp), _, rfl, ("abcdef" : Str), _, 97 + pr.2, rfl, rfl, by decide, letter_of b2, ws wp, ⟨#[97 + pr.2]⟩, rfl, rfl, (by rw [ws_len]; show wp.length + 1 ≤ 16777216; omega), B, _, _, rfl, rfl, hBn, by rw [List.length_map, lL]; show i + 1 < 16777216; omega, _, _, rfl, fun b o e => ?_, ?_, ?_⟩
      · rw [upd_ne (ne_of_none e nB0)]
        exact sn b o e
      · rw [upd_ne nSB]
        exact hSn
      · rw [upd_same, List.map_append, ws_app]
        rfl
    · subst eσ
      rw [List.length_map, lp, List.take_length] at hBn
      exact ⟨_, rfl, k B Hn sn nB0 hBn⟩
end
end K16

set_option Elab.async false
set_option linter.all false
set_option maxRecDepth 100000
set_option maxHeartbeats 8000000
namespace K16
open PySem PySem.Spec PyProof.Rows L2 Lf
def spPF (K : PySem.W.Frag) : Sp := fun vs H Q _ => ∃ r u rows m wd n, vs = [.ref r, .ref u, .int (n : Nat)] ∧ RowsT K H r rows ∧ MadeT K H u m ∧ Form rows wd ∧ Mon.madeTab 0 rows [] = some m ∧ m.length ≤ 2000 ∧ n < rows.length ∧
  ∀ l H', Same H H' → H l = none → H' l = some (.lst (((Mon.wordTab m).map (Mon.walk rows n)).map nv)) → Q (.ref l) H'
theorem walk_lt {rows : List (List Nat)} {wd : Nat} (FO : Form rows wd) : ∀ {x : List Nat} {s : Nat}, s < rows.length → (∀ c ∈ x, c < wd) → Mon.walk rows s x < rows.length
  | [], s, h, _ => h
  | c :: x, s, h, hx => by
    obtain ⟨row, hrow⟩ := lt_get h
    obtain ⟨l1, l2⟩ := FO.2.2.2.2 row (List.mem_of_getElem? hrow)
    obtain ⟨t, ht⟩ := lt_get (show c < row.length by rw [l1]; exact hx c List.mem_cons_self)
    show Mon.walk rows ((rows.getD s []).getD c 0) x < rows.length
    rw [Mon.getD_of hrow, Mon.getD_of ht]
    exact walk_lt FO (l2 t (List.mem_of_getElem? ht)) fun d hd => hx d (List.mem_cons_of_mem _ hd)
section
variable {P : Program} {w : World} {K : PySem.W.Frag} {mg : Str → Option Value} {base : Heap}
theorem scPF : FnScope ["right", "made", "number", "products", "before", "letter"] ["right", "made", "number"] (defScope s_products_from) := ⟨rfl, rfl, rfl, by decide +kernel, rfl, by decide +kernel, by decide +kernel⟩
theorem ok_pf {f : Addr} {fd : FuncData} {q : Str} (F : FunD K "_products_from" q (defArgs s_products_from) (defBody s_products_from) (defScope s_products_from) [] [] f fd) :
    FnOk P w K mg base CX0 1 f fd ["right", "made", "number"] (spPF K) := by
  refine F.ok scPF (fun vs H Q E h => ?_) (fun cdv A outer s H vs Q E hr h => ?_)
  · obtain ⟨r, u, rows, m, wd, n, rfl, _⟩ := h
    rfl
  · obtain ⟨r, u, rows, m, wd, n, rfl, R, MM, FO, hm, m2, hn, k⟩ := h
    refine ⟨_, PSs.nox (pss_cons (ps_set (i := 3) scPF.nd rfl (.inl rfl) (pe_lst (pa_cons (pv 2) pa_nil)))
      (pss_cons (ps_for PassesOwn.never rfl (pi_tup (pe_slice sl_tup (pv 1) (po_some pe_int) po_none)) (pg_tup rfl (pgs_cons (pg_name (i := 4) scPF.nd rfl (.inl rfl)) (pgs_cons (pg_name (i := 5) scPF.nd rfl (.inl rfl)) pgs_nil)))
        (pss_one (ps_expr (pe_bm PySem.F.plainAttrs_list PySem.F.slot_list_append PySem.F.type_list_append mt_append (pv 3) (pa_cons (pe_ix ix_tup (pe_ix ix_tup (pv 0) (pe_ix ix_list (pv 3) (pv 4) (fun _ _ => rfl)) (fun _ _ => rfl)) (pv 5) (fun _ _ => rfl)) pa_nil)))))
      (pss_one (ps_ret (pv 3))))), ?_⟩
    obtain ⟨as, sr, la, srow⟩ := R.ex
    obtain ⟨ps, sm, lp, sp⟩ := MM.ex
    have f5 := FO.2.2.2.2
    have hlt : ∀ (k : Nat) p, m[k]? = some p → p.1 < k + 1 ∧ p.2 < wd := fun k p h => by
      obtain ⟨a, row, b, c⟩ := Mon.madeTab_lt hm h
      have := (f5 row (List.mem_of_getElem? b)).1
      have := get_lt c
      exact ⟨a, by omega⟩
    have wl : ∀ (i : Nat) x, x ∈ Mon.wordTab (m.take i) → ∀ c ∈ x, c < wd := fun i x hx => word_lettersF (m.take i) [[]] (fun p hp => by
      obtain ⟨k', hk'⟩ := List.getElem?_of_mem (List.mem_of_mem_take hp)
      exact (hlt k' p hk').2) (fun u hu d hd => by rw [List.mem_singleton.mp hu] at hd; cases hd) x hx
    refine ⟨_, rfl, (by show 1 ≤ sizeLine; decide), fun B nB => ?_⟩
    have nB0 := nB
    have s1 := same_upd (o := .lst [V.int (n : Nat)]) nB
    have hB1 : L2.upd H B (.lst [V.int (n : Nat)]) B = some (.lst (((Mon.wordTab []).map (Mon.walk rows n)).map nv)) := upd_same
    generalize L2.upd H B (.lst [V.int (n : Nat)]) = H1 at s1 hB1 ⊢
    refine ⟨_, rfl, 1, rfl, u, _, rfl, Lf.SqT.same s1 sm, ?_, fun S nS => ⟨S, rfl, ⟨_, SqT.of upd_same⟩, ?_⟩⟩
    · rw [List.length_cons, sIx1]
      rintro ⟨z, _⟩
      exact absurd z (by decide)
    rw [cut1]
    have u2 := same_upd (o := .tup (ps.map V.ref)) nS
    have hS : L2.upd H1 S (.tup (ps.map V.ref)) S = some (.tup (ps.map V.ref)) := upd_same
    have s2 := s1.trans u2
    have hB2 := u2 _ _ hB1
    have nSB : S ≠ B := fun z => by rw [z, hB1] at nS; cases nS
    generalize L2.upd H1 S (.tup (ps.map V.ref)) = H2 at s2 hS hB2 ⊢
    clear u2 s1 hB1 nS
    refine for_tup (K := K) (a := S) (xs := ps.map V.ref) (fun i σ Hn => ∃ v2 v3 : Option V, σ = [some (.ref r), some (.ref u), some (.int (n : Nat)), some (.ref B), v2, v3] ∧ Same H Hn ∧ Hn S = some (.tup (ps.map V.ref)) ∧ Hn B = some (.lst (((Mon.wordTab (m.take i)).map (Mon.walk rows n)).map nv)))
      ⟨none, none, rfl, s2, hS, hB2⟩ (fun i σ Hn _ ⟨_, _, _, _, h, _⟩ => SqT.of h) (fun i x σ Hn hx ⟨v2, v3, eσ, sn, hSn, hBn⟩ => ?_) (fun σ Hn ⟨v2, v3, eσ, sn, hSn, hBn⟩ => ?_)
    · subst eσ
      obtain ⟨pa, hpa, rfl⟩ := map_get hx
      obtain ⟨pr, hpr⟩ := lt_get (show i < m.length by have := get_lt hpa; omega)
      have il := get_lt hpr
      have lk : (m.take i).length = i := by rw [List.length_take]; omega
      obtain ⟨b1, b2⟩ := hlt i pr hpr
      have lL : (Mon.wordTab (m.take i)).length = i + 1 := by rw [Mon.word_len, lk]
      obtain ⟨wp, hwp⟩ := lt_get (show pr.1 < (Mon.wordTab (m.take i)).length by omega)
      have w1 := walk_lt FO hn (wl i wp (List.mem_of_getElem? hwp))
      have eL : Mon.wordTab (m.take (i + 1)) = Mon.wordTab (m.take i) ++ [wp ++ [pr.2]] := by
        rw [take_snoc hpr, Mon.word_snoc, Mon.wordStep, Mon.getD_of hwp]
      rw [eL, List.map_append, List.map_cons, List.map_nil, Mon.walk_app]
      generalize Mon.wordTab (m.take i) = L0 at hBn lL hwp ⊢
      generalize hs1 : Mon.walk rows n wp = s1 at w1 ⊢
      have hB' : (L0.map (Mon.walk rows n))[pr.1]? = some s1 := by rw [List.getElem?_map, hwp, ← hs1]; rfl
      obtain ⟨a, ha⟩ := lt_get (show s1 < as.length by omega)
      obtain ⟨row, hrow⟩ := lt_get w1
      obtain ⟨t, ht⟩ := lt_get (show pr.2 < row.length by rw [(f5 row (List.mem_of_getElem? hrow)).1]; exact b2)
      have et : Mon.walk rows s1 [pr.2] = t := by
        show (rows.getD s1 []).getD pr.2 0 = t
        rw [Mon.getD_of hrow, Mon.getD_of ht]
      rw [et]
      refine ⟨pa, _, rfl, Lf.SqT.same sn (sp i pa pr hpa hpr), rfl, _, _, rfl, _, _, rfl, rfl, ?_⟩
      refine ⟨_, rfl, .inl ⟨rfl, _, SqL.of hBn⟩, _, rfl, _, rfl, _, rfl, B, _, _, nv s1, rfl, rfl, SqL.of hBn, atI_nat (get_map hB'), r, as.map V.ref, _, .ref a, rfl, rfl, Lf.SqT.same sn sr, atI_nat (get_map ha), _, rfl, a, row.map nv, _, nv t, rfl, rfl, Lf.SqT.same sn (srow s1 a row ha hrow), atI_nat (get_map ht), B, _, _, rfl, rfl, hBn, by rw [List.length_map, List.length_map, lL]; show i + 1 < 16777216; omega, _, _, rfl, fun b o e => ?_, ?_, ?_⟩
      · rw [upd_ne (ne_of_none e nB0)]
        exact sn b o e
      · rw [upd_ne nSB]
        exact hSn
      · rw [upd_same, List.map_append]
        rfl
    · subst eσ
      rw [List.length_map, lp, List.take_length] at hBn
      exact ⟨_, rfl, k B Hn sn nB0 hBn⟩
end
end K16

set_option Elab.async false
set_option linter.all false
set_option maxRecDepth 100000
set_option maxHeartbeats 8000000
namespace K16
open PySem PySem.Spec PyProof.Rows L2 Lf
def spPowers (K : PySem.W.Frag) : Sp := fun vs H Q _ => ∃ r u rows m wd x, vs = [.ref r, .ref u, .int (x : Nat)] ∧ RowsT K H r rows ∧ MadeT K H u m ∧ Ass.Md rows wd m ∧ x < rows.length ∧
  ∀ (t l : Addr) (pl : List Nat) (i : Nat) (H' : Hp), Same H H' → H' t = some (.tup [.ref l, .int (i : Nat)]) → H' l = some (.lst (pl.map nv)) → Ass.Cy rows m x pl.length i → (∀ (k r : Nat), pl[k]? = some r → r = Ass.pm rows m x k) → Q (.ref t) H'
theorem at_last {xs : List V} {n : Nat} {v : V} (h : xs[n]? = some v) (l : xs.length = n + 1) : atI xs (-1) = some v := by
  have e := take_snoc h
  rw [List.take_of_length_le (by omega)] at e
  rw [e]
  exact atI_last _ _
section
variable {P : Program} {w : World} {K : PySem.W.Frag} {mg : Str → Option Value} {base : Heap}
theorem scPowers : FnScope ["right", "made", "number", "products", "powers", "places"] ["right", "made", "number"] (defScope s_powers) := ⟨rfl, rfl, rfl, by decide +kernel, rfl, by decide +kernel, by decide +kernel⟩
theorem ok_powers {f : Addr} {fd : FuncData} {q : Str} (F : FunD K "_powers" q (defArgs s_powers) (defBody s_powers) (defScope s_powers) [] [] f fd) (zn : mg "len" = none)
    (DP : Def P w K mg base CX0 1 "_products_from" ["right", "made", "number"] (spPF K)) :
    FnOk P w K mg base CX0 2 f fd ["right", "made", "number"] (spPowers K) := by
  refine F.ok scPowers (fun vs H Q E h => ?_) (fun cdv A outer s H vs Q E hr h => ?_)
  · obtain ⟨r, u, rows, m, wd, x, rfl, _⟩ := h
    rfl
  · obtain ⟨r, u, rows, m, wd, x, rfl, R, MM, M, xl, k⟩ := h
    have hu : (A.deeper (envOfC q (defScope s_powers) s.heap.objs.size f cdv)).units + 1 < cLine := by have := hr.units; omega
    refine ⟨_, PSs.nox (pss_cons (ps_set (i := 3) scPowers.nd rfl (.inl rfl) (pe_def DP hr pass0 rfl (pa_cons (pv 0) (pa_cons (pv 1) (pa_cons (pv 2) pa_nil)))))
      (pss_cons (ps_set (i := 4) scPowers.nd rfl (.inl rfl) (pe_lst (pa_cons pe_int pa_nil)))
      (pss_cons (ps_set (i := 5) scPowers.nd rfl (.inl rfl) (pe_disp (pps_cons pe_int pe_int pps_nil) (by rfl) (by rfl) (fun z => by cases z) (by decide)))
      (pss_cons (ps_while PassesOwn.never (pt_cmp (pc_dnotin hu (pe_ix ix_list (pv 3) (pe_ix ix_list (pv 4) (pe_un un_neg pe_int) (fun _ _ => rfl)) (fun _ _ => rfl)) (pv 5)) (by rfl))
        (pss_cons (ps_expr (pe_bm PySem.F.plainAttrs_list PySem.F.slot_list_append PySem.F.type_list_append mt_append (pv 4) (pa_cons (pe_ix ix_list (pv 3) (pe_ix ix_list (pv 4) (pe_un un_neg pe_int) (fun _ _ => rfl)) (fun _ _ => rfl)) pa_nil)))
        (pss_one (ps_dput hu (pv 5) (pe_ix ix_list (pv 4) (pe_un un_neg pe_int) (fun _ _ => rfl)) (pe_callB call_lenD rfl zn boot_len (pa_cons (pv 5) pa_nil)) rfl))))
      (pss_one (ps_ret (pe_tup (pa_cons (pv 4) (pa_cons (pe_dget hu (pv 5) (pe_ix ix_list (pv 3) (pe_ix ix_list (pv 4) (pe_un un_neg pe_int) (fun _ _ => rfl)) (fun _ _ => rfl)) (fun _ _ => rfl)) pa_nil))))))))), ?_⟩
    have FO : Form rows wd := M.F
    have hm := M.made
    have lm := M.len
    have m2 : m.length ≤ 2000 := by have := FO.2.1; omega
    refine ⟨_, rfl, _, rfl, _, rfl, r, u, rows, m, wd, x, rfl, R, MM, FO, hm, m2, xl, fun l H1 s1 nl hl => ?_⟩
    refine ⟨(by show 1 ≤ sizeLine; decide), fun B nB => ?_⟩
    have s2 := s1.trans (same_upd (o := .lst [V.int 0]) nB)
    have hl2 := same_upd (o := .lst [V.int 0]) nB _ _ hl
    have hB2 : L2.upd H1 B (.lst [V.int 0]) B = some (.lst (([0] : List Nat).map nv)) := upd_same
    generalize L2.upd H1 B (.lst [V.int 0]) = H2 at s2 hl2 hB2 ⊢
    have nB0 : H B = none := nil_of s1 nB
    have nBl : B ≠ l := fun z => by rw [z, hl] at nB; cases nB
    clear nB
    intro D nD
    have nD0 : H D = none := nil_of s2 nD
    have nDB : D ≠ B := fun z => by rw [z, hB2] at nD; cases nD
    have nDl : D ≠ l := fun z => by rw [z, hl2] at nD; cases nD
    refine ⟨upd_same, [(ik 0, V.int 0)], rfl, by decide, ?_⟩
    rw [L2.upd_upd]
    have s3 := s2.trans (same_upd (o := .dK (mergeK [] [(ik 0, V.int 0)])) nD)
    have hl3 := same_upd (o := .dK (mergeK [] [(ik 0, V.int 0)])) nD _ _ hl2
    have hB3 := same_upd (o := .dK (mergeK [] [(ik 0, V.int 0)])) nD _ _ hB2
    have hD3 : L2.upd H2 D (.dK (mergeK [] [(ik 0, V.int 0)])) D = some (.dK (idT [0])) := upd_same
    generalize L2.upd H2 D (.dK (mergeK [] [(ik 0, V.int 0)])) = H3 at s3 hl3 hB3 hD3 ⊢
    clear s1 s2 hl hl2 hB2 nD
    refine ⟨fun i σ Hn => ∃ pl : List Nat, σ = [some (.ref r), some (.ref u), some (.int (x : Nat)), some (.ref l), some (.ref B), some (.ref D)] ∧ Same H Hn ∧ Hn l = some (.lst (((Mon.wordTab m).map (Mon.walk rows x)).map nv)) ∧ Hn B = some (.lst (pl.map nv)) ∧ Hn D = some (.dK (idT pl)) ∧ Ass.PI rows m x pl ∧ pl ≠ [] ∧ i + pl.length = rows.length + 1,
      ⟨rows.length, [0], rfl, s3, hl3, hB3, hD3, Ass.PI.zero, (by decide), rfl⟩, ?_⟩
    rintro i σ Hn ⟨pl, rfl, sn, hln, hBn, hDn, pi, pne, im⟩
    obtain ⟨c, hc⟩ : ∃ c, pl.length = c + 1 := ⟨pl.length - 1, by have := List.length_pos_iff.mpr pne; omega⟩
    obtain ⟨lst, hlst⟩ := lt_get (show c < pl.length by omega)
    have fl := pi.at' c lst hlst
    have ll : lst < rows.length := by rw [fl]; exact M.pm_lt xl c
    obtain ⟨wl, hwl⟩ := lt_get (show lst < (Mon.wordTab m).length by rw [Mon.word_len, lm]; exact ll)
    have pr : Mon.walk rows x wl = Ass.pm rows m x pl.length := by
      rw [hc]
      show _ = Ass.mt rows m x (Ass.pm rows m x c)
      rw [← fl]
      show _ = Mon.walk rows x ((Mon.wordTab m).getD lst [])
      rw [Mon.getD_of hwl]
    generalize ht : Mon.walk rows x wl = t at pr
    have hat : (((Mon.wordTab m).map (Mon.walk rows x)).map nv)[lst]? = some (nv t) := get_map (by rw [List.getElem?_map, hwl, ← ht]; rfl)
    have hla : atI (pl.map nv) (-1) = some (nv lst) := at_last (get_map hlst) (by rw [List.length_map, hc])
    refine ⟨_, rfl, _, rfl, 1, rfl, B, _, _, nv lst, rfl, rfl, SqL.of hBn, hla, l, _, _, nv t, rfl, rfl, SqL.of hln, atI_nat hat, _, rfl, D, valV (idT pl) (ik t), rfl, DGet.k (k := ik t) hDn, ?_⟩
    by_cases hr' : t ∈ pl
    · obtain ⟨i', hi'⟩ := List.getElem?_of_mem hr'
      have ev := idF_some (k := 0) pi.nd hi'
      rw [ev]
      refine ⟨_, rfl, ifF rfl ?_⟩
      refine ⟨_, rfl, _, rfl, _, rfl, _, rfl, 1, rfl, B, _, _, nv lst, rfl, rfl, SqL.of hBn, hla, l, _, _, nv t, rfl, rfl, SqL.of hln, atI_nat hat, D, _, rfl, (by have z := DGet.k (k := ik t) hDn; rw [ev] at z; exact z), ?_⟩
      refine ⟨(by show 2 ≤ sizeLine; decide), fun TT nTT => ?_⟩
      rw [Nat.zero_add]
      have u := same_upd (o := .tup [.ref B, .int (i' : Nat)]) nTT
      exact k TT B pl i' _ (sn.trans u) upd_same (u _ _ hBn) (pi.done pr hi') pi.at'
    · have ev := idF_none (k := 0) hr'
      rw [ev]
      refine ⟨_, rfl, ifT rfl ?_⟩
      have pi' := pi.more pr hr'
      have l15 := pi'.lt M xl
      rw [List.length_append, List.length_singleton] at l15
      refine ⟨fun σ' H' => ∃ i', i' < i ∧ ∃ pl : List Nat, σ' = [some (.ref r), some (.ref u), some (.int (x : Nat)), some (.ref l), some (.ref B), some (.ref D)] ∧ Same H H' ∧ H' l = some (.lst (((Mon.wordTab m).map (Mon.walk rows x)).map nv)) ∧ H' B = some (.lst (pl.map nv)) ∧ H' D = some (.dK (idT pl)) ∧ Ass.PI rows m x pl ∧ pl ≠ [] ∧ i' + pl.length = rows.length + 1, fun σ' H' z => z, ?_⟩
      refine ⟨_, rfl, .inl ⟨rfl, _, SqL.of hBn⟩, _, rfl, _, rfl, 1, rfl, B, _, _, nv lst, rfl, rfl, SqL.of hBn, hla, l, _, _, nv t, rfl, rfl, SqL.of hln, atI_nat hat, B, _, _, rfl, rfl, hBn, by rw [List.length_map]; show pl.length < 16777216; omega, ?_⟩
      have e1 : pl.map nv ++ [nv t] = (pl ++ [t]).map nv := by rw [List.map_append]; rfl
      rw [e1]
      have hB5 : L2.upd Hn B (.lst ((pl ++ [t]).map nv)) B = some (.lst ((pl ++ [t]).map nv)) := upd_same
      have hl5 : L2.upd Hn B (.lst ((pl ++ [t]).map nv)) l = some (.lst (((Mon.wordTab m).map (Mon.walk rows x)).map nv)) := by rw [upd_ne nBl.symm]; exact hln
      have hD5 : L2.upd Hn B (.lst ((pl ++ [t]).map nv)) D = some (.dK (idT pl)) := by rw [upd_ne nDB]; exact hDn
      have s5 : Same H (L2.upd Hn B (.lst ((pl ++ [t]).map nv))) := fun b o e => by
        rw [upd_ne (ne_of_none e nB0)]
        exact sn b o e
      generalize L2.upd Hn B (.lst ((pl ++ [t]).map nv)) = H5 at s5 hl5 hB5 hD5 ⊢
      have hla5 : atI ((pl ++ [t]).map nv) (-1) = some (nv t) := at_last (n := pl.length) (get_map (by rw [List.getElem?_append_right (Nat.le_refl _), Nat.sub_self]; rfl)) (by rw [List.length_map, List.length_append]; rfl)
      refine ⟨_, rfl, D, _, rfl, hD5, ?_⟩
      refine ⟨_, rfl, _, rfl, 1, rfl, B, _, _, nv t, rfl, rfl, SqL.of hB5, hla5, D, _, rfl, DPut.k (k := ik t) hD5 (by rw [idF_len]; show pl.length < 16777216; omega), ?_⟩
      rw [idF_len, idT_put hr']
      refine ⟨i - 1, by omega, pl ++ [t], rfl, fun b o e => ?_, ?_, ?_, upd_same, pi', by simp, by rw [List.length_append, List.length_singleton]; omega⟩
      · rw [upd_ne (ne_of_none e nD0)]
        exact s5 b o e
      · rw [upd_ne nDl.symm]
        exact hl5
      · rw [upd_ne nDB.symm]
        exact hB5
end
end K16

set_option Elab.async false
set_option linter.all false
set_option maxRecDepth 100000
set_option maxHeartbeats 8000000
namespace K16
open PySem PySem.Spec PyProof.Rows L2 Lf
/-- which power count is -/
def pAt (L i c : Nat) : Nat := if c < L then c else i + (c - i) % (L - i)
theorem pAt_lt {L i c : Nat} (h : i < L) : pAt L i c < L := by
  unfold pAt
  split
  · assumption
  · have := Nat.mod_lt (c - i) (show 0 < L - i by omega)
    omega
def spPower (K : PySem.W.Frag) : Sp := fun vs H Q _ => ∃ p rows m wd x c, vs = [.ref p, .int (x : Nat), .int (c : Nat)] ∧ Mo K H p rows m ∧ Ass.Md rows wd m ∧ x < rows.length ∧ c ≤ 1000000000000000000000000000000 ∧
  ∀ r L i H', Same H H' → Ass.Cy rows m x L i → r = Ass.pm rows m x (pAt L i c) → Q (.int (r : Nat)) H'
def spCycle (K : PySem.W.Frag) : Sp := fun vs H Q _ => ∃ p rows m wd x, vs = [.ref p, .int (x : Nat)] ∧ Mo K H p rows m ∧ Ass.Md rows wd m ∧ x < rows.length ∧
  ∀ t L i H', Same H H' → Ass.Cy rows m x L i → H' t = some (.tup [.int (i : Nat), .int ((L - i : Nat) : Nat)]) → Q (.ref t) H'
section
variable {P : Program} {w : World} {K : PySem.W.Frag} {mg : Str → Option Value} {base : Heap}
theorem scPower : FnScope ["self", "number", "count", "powers", "index"] ["self", "number", "count"] (defScope s_Monoid_power) := ⟨rfl, rfl, rfl, by decide +kernel, rfl, by decide +kernel, by decide +kernel⟩
theorem ok_power {f : Addr} {fd : FuncData} {q : Str} (F : FunD K "power" q (defArgs s_Monoid_power) (defBody s_Monoid_power) (defScope s_Monoid_power) [] [] f fd) (T : Txt P w K mg base)
    (DN : DefM P w K mg base CX0 3 "_check_number" ["self", "number"] (spCkN K)) (DB : Def P w K mg base CX0 2 "is_between" ["thing", "least", "most"] spBtw) (DP : Def P w K mg base CX0 2 "_powers" ["right", "made", "number"] (spPowers K)) :
    FnOk P w K mg base CX0 4 f fd ["self", "number", "count"] (spPower K) := by
  have cl : L2.Cls K (He.ga K "Monoid") := He.cls_ok (T.d.fact 49 (f := .cls "Monoid") rfl)
  have n1 : NoAttr K (He.ga K "Monoid") "right" := He.noat_ok (T.d.fact 65 (f := .noat "Monoid" "right") rfl)
  have n2 : NoAttr K (He.ga K "Monoid") "_made" := He.noat_ok (T.d.fact 66 (f := .noat "Monoid" "_made") rfl)
  have zn : mg "len" = none := T.fr 42 "len" rfl
  obtain ⟨tM, gM⟩ := T.it 83 "MOST_COUNT" 1000000000000000000000000000000 rfl
  obtain ⟨fn', fdn, mn, Fn, bn⟩ := DN.ex
  refine F.ok scPower (fun vs H Q E h => ?_) (fun cdv A outer s H vs Q E hr h => ?_)
  · obtain ⟨p, rows, m, wd, x, c, rfl, _⟩ := h
    rfl
  · obtain ⟨p, rows, m, wd, x, c, rfl, mo, M, hx, hc, k⟩ := h
    have r2 : Room 2 _ := hr.mono (by decide)
    obtain ⟨dx, t, u, v, hp, R, MA, _⟩ := id mo.ex
    refine ⟨_, PSs.nox (pss_cons (ps_expr (pe_meth (pv 0) cl mn Fn hr bn .nil pass0 (pa_cons (pv 1) pa_nil)))
      (pss_cons (ps_if (pt_not (pt_val (pe_def DB r2 pass0 rfl (pa_cons (pv 2) (pa_cons pe_int (pa_cons (pe_gint rfl gM) pa_nil)))))) (pss_one ps_never) pss_nil)
      (pss_cons (ps_asg (pe_def DP r2 pass0 rfl (pa_cons (pe_fld (pv 0) rfl) (pa_cons (pe_fld (pv 0) rfl) (pa_cons (pv 1) pa_nil)))) (pg_tup rfl (pgs_cons (pg_name (i := 3) scPower.nd rfl (.inl rfl)) (pgs_cons (pg_name (i := 4) scPower.nd rfl (.inl rfl)) pgs_nil))))
      (pss_cons (ps_if (pt_cmpR op_ge (pv 2) (pe_callB call_len_seq rfl zn boot_len (pa_cons (pv 3) pa_nil)) (nomark _))
        (pss_one (ps_set (i := 2) scPower.nd rfl (.inl rfl) (pe_op op_add (pv 4) (pe_op op_mod (pe_op op_sub (pv 2) (pv 4)) (pe_op op_sub (pe_callB call_len_seq rfl zn boot_len (pa_cons (pv 3) pa_nil)) (pv 4)))))) pss_nil)
      (pss_one (ps_ret (pe_ix ix_list (pv 3) (pv 2) (fun _ _ => rfl)))))))), ?_⟩
    refine ⟨_, rfl, p, dx, _, rfl, hp, rfl, _, rfl, p, rows, m, x, rfl, mo, hx, ?_⟩
    refine ⟨_, rfl, .int (c : Nat), 0, _, rfl, True.intro, _, rfl, ?_⟩
    rw [show btw 0 1000000000000000000000000000000 (.int (c : Nat)) = true by
      show (decide ((0 : Int) ≤ (c : Nat)) && decide (((c : Nat) : Int) ≤ 1000000000000000000000000000000)) = true
      rw [decide_eq_true (by omega), decide_eq_true (by omega)]
      rfl]
    refine ifF rfl ?_
    refine ⟨_, rfl, p, _, dx, _, _, rfl, hp, cl, n1, rfl, _, rfl, p, _, dx, _, _, rfl, hp, cl, n2, rfl, _, rfl, t, u, rows, m, wd, x, rfl, R, MA, M, hx, fun tt l pl i H1 s1 htt hl PW pa => ?_⟩
    refine ⟨tt, _, rfl, SqT.of htt, rfl, _, _, rfl, _, _, rfl, rfl, ?_⟩
    have il := PW.lt
    refine ⟨_, rfl, _, rfl, l, _, rfl, .inl (SqL.of hl), _, _, rfl, rfl, _, rfl, ?_⟩
    rw [List.length_map]
    have fin : ∀ j, j = pAt pl.length i c → ∃ r, pl[j]? = some r ∧ Q (.int (r : Nat)) H1 := fun j hj => by
      obtain ⟨r, hr'⟩ := lt_get (show j < pl.length by rw [hj]; exact pAt_lt il)
      exact ⟨r, hr', k r pl.length i H1 s1 PW (hj ▸ pa j r hr')⟩
    refine ite2 (fun h0 => ?_) (fun h0 => ?_)
    · have h0 := of_decide_eq_true h0
      refine ⟨_, rfl, _, rfl, _, rfl, _, (i : Nat), rfl, rfl, _, rfl, l, _, rfl, .inl (SqL.of hl), _, rfl, ((pl.length : Nat) : Int), (i : Nat), congrArg (fun z : Nat => V.int ((z : Nat) : Int)) (List.length_map _), rfl, ((c : Nat) : Int) - (i : Nat), ((pl.length : Nat) : Int) - (i : Nat), rfl, rfl, (by show (0 : Int) < ((pl.length : Nat) : Int) - (i : Nat); omega), (i : Nat), _, rfl, rfl, ?_⟩
      obtain ⟨r, hr', kk⟩ := fin (i + (c - i) % (pl.length - i)) (by unfold pAt; rw [if_neg (by omega)])
      have e : ((i : Nat) : Int) + (((c : Nat) : Int) - (i : Nat)) % (((pl.length : Nat) : Int) - (i : Nat)) = ((i + (c - i) % (pl.length - i) : Nat) : Int) := by
        rw [show ((c : Nat) : Int) - (i : Nat) = ((c - i : Nat) : Int) by omega, show ((pl.length : Nat) : Int) - (i : Nat) = ((pl.length - i : Nat) : Int) by omega]
        omega
      rw [show (fun i j : Int => V.int (i + j)) ((i : Nat) : Int) ((((c : Nat) : Int) - (i : Nat)) % (((pl.length : Nat) : Int) - (i : Nat))) = V.int ((i + (c - i) % (pl.length - i) : Nat) : Int) from congrArg V.int e]
      exact ⟨_, rfl, _, rfl, l, _, _, _, rfl, rfl, SqL.of hl, atI_nat (get_map hr'), kk⟩
    · have h0 := of_decide_eq_false (Bool.eq_false_iff.mpr h0)
      obtain ⟨r, hr', kk⟩ := fin c (by unfold pAt; rw [if_pos (by omega)])
      exact ⟨_, rfl, _, rfl, l, _, _, _, rfl, rfl, SqL.of hl, atI_nat (get_map hr'), kk⟩
theorem scCycle : FnScope ["self", "number", "powers", "index"] ["self", "number"] (defScope s_Monoid_cycle) := ⟨rfl, rfl, rfl, by decide +kernel, rfl, by decide +kernel, by decide +kernel⟩
theorem ok_cycle {f : Addr} {fd : FuncData} {q : Str} (F : FunD K "cycle" q (defArgs s_Monoid_cycle) (defBody s_Monoid_cycle) (defScope s_Monoid_cycle) [] [] f fd) (T : Txt P w K mg base)
    (DN : DefM P w K mg base CX0 3 "_check_number" ["self", "number"] (spCkN K)) (DP : Def P w K mg base CX0 2 "_powers" ["right", "made", "number"] (spPowers K)) :
    FnOk P w K mg base CX0 4 f fd ["self", "number"] (spCycle K) := by
  have cl : L2.Cls K (He.ga K "Monoid") := He.cls_ok (T.d.fact 49 (f := .cls "Monoid") rfl)
  have n1 : NoAttr K (He.ga K "Monoid") "right" := He.noat_ok (T.d.fact 65 (f := .noat "Monoid" "right") rfl)
  have n2 : NoAttr K (He.ga K "Monoid") "_made" := He.noat_ok (T.d.fact 66 (f := .noat "Monoid" "_made") rfl)
  have zn : mg "len" = none := T.fr 42 "len" rfl
  obtain ⟨fn', fdn, mn, Fn, bn⟩ := DN.ex
  refine F.ok scCycle (fun vs H Q E h => ?_) (fun cdv A outer s H vs Q E hr h => ?_)
  · obtain ⟨p, rows, m, wd, x, rfl, _⟩ := h
    rfl
  · obtain ⟨p, rows, m, wd, x, rfl, mo, M, hx, k⟩ := h
    have r2 : Room 2 _ := hr.mono (by decide)
    obtain ⟨dx, t, u, v, hp, R, MA, _⟩ := id mo.ex
    refine ⟨_, PSs.nox (pss_cons (ps_expr (pe_meth (pv 0) cl mn Fn hr bn .nil pass0 (pa_cons (pv 1) pa_nil)))
      (pss_cons (ps_asg (pe_def DP r2 pass0 rfl (pa_cons (pe_fld (pv 0) rfl) (pa_cons (pe_fld (pv 0) rfl) (pa_cons (pv 1) pa_nil)))) (pg_tup rfl (pgs_cons (pg_name (i := 2) scCycle.nd rfl (.inl rfl)) (pgs_cons (pg_name (i := 3) scCycle.nd rfl (.inl rfl)) pgs_nil))))
      (pss_one (ps_ret (pe_tup (pa_cons (pv 3) (pa_cons (pe_op op_sub (pe_callB call_len_seq rfl zn boot_len (pa_cons (pv 2) pa_nil)) (pv 3)) pa_nil))))))), ?_⟩
    refine ⟨_, rfl, p, dx, _, rfl, hp, rfl, _, rfl, p, rows, m, x, rfl, mo, hx, ?_⟩
    refine ⟨_, rfl, p, _, dx, _, _, rfl, hp, cl, n1, rfl, _, rfl, p, _, dx, _, _, rfl, hp, cl, n2, rfl, _, rfl, t, u, rows, m, wd, x, rfl, R, MA, M, hx, fun tt l pl i H1 s1 htt hl PW pa => ?_⟩
    refine ⟨tt, _, rfl, SqT.of htt, rfl, _, _, rfl, _, _, rfl, rfl, ?_⟩
    have il := PW.lt
    refine ⟨_, rfl, _, rfl, l, _, rfl, .inl (SqL.of hl), _, rfl, ((pl.length : Nat) : Int), (i : Nat), congrArg (fun z : Nat => V.int ((z : Nat) : Int)) (List.length_map _), rfl, ?_⟩
    rw [show (fun i j : Int => V.int (i - j)) ((pl.length : Nat) : Int) ((i : Nat) : Int) = V.int ((pl.length - i : Nat) : Int) from congrArg V.int (show ((pl.length : Nat) : Int) - (i : Nat) = ((pl.length - i : Nat) : Int) by omega)]
    exact ⟨(by show 2 ≤ sizeLine; decide), fun z nz => k z pl.length i _ (s1.trans (same_upd nz)) PW upd_same⟩
end
end K16

set_option Elab.async false
set_option linter.all false
set_option maxRecDepth 100000
set_option maxHeartbeats 8000000
namespace K16
open PySem PySem.Spec PyProof.Rows L2 Lf
def spWord : Sp := fun vs H Q _ => ∃ (x : List Nat) (wd n : Nat), vs = [.str (ws x), .int (wd : Nat), .int (n : Nat)] ∧ (∀ c ∈ x, c < wd) ∧ wd ≤ 6 ∧ x.length ≤ n ∧ n ≤ 1000 ∧ ∀ H', Same H H' → Q (.bl true) H'
abbrev teIn : TE := tOp (fun x y H Q => ∃ (c : Nat) (z : Str), x = .str ⟨#[c]⟩ ∧ y = .str z ∧ Q (.bl (decide (c ∈ z.cps.toList))) H) (tVar 4) (tVar 3)
theorem known_in {c wd : Nat} (h : c < wd) (w6 : wd ≤ 6) : 97 + c ∈ (cutS ("abcdef" : Str) none (some ((wd : Nat) : Int))).cps.toList := by
  have : wd = 1 ∨ wd = 2 ∨ wd = 3 ∨ wd = 4 ∨ wd = 5 ∨ wd = 6 := by omega
  have g : ∀ wd : Nat, wd ≤ 6 → ∀ c, c < wd → 97 + c ∈ (cutS ("abcdef" : Str) none (some ((wd : Nat) : Int))).cps.toList := by decide +kernel
  exact g wd w6 c h
section
variable {P : Program} {w : World} {K : PySem.W.Frag} {mg : Str → Option Value} {base : Heap}
theorem scWord : FnScope ["thing", "letters", "most", "known", "letter"] ["thing", "letters", "most"] (defScope s_is_word) := ⟨rfl, rfl, rfl, by decide +kernel, rfl, by decide +kernel, by decide +kernel⟩
theorem ok_word {f : Addr} {fd : FuncData} {q : Str} {dv : List V} (F : FunD K "is_word" q (defArgs s_is_word) (defBody s_is_word) (defScope s_is_word) dv [] f fd) {t : Tok} (gL : mg "LETTERS" = some (.str ("abcdef" : Str) t)) (zI : mg "isinstance" = none) (zs : mg "str" = none) (zn : mg "len" = none) (za : mg "all" = none) :
    FnOk P w K mg base CX0 1 f fd ["thing", "letters", "most"] spWord := by
  refine F.ok scWord (fun vs H Q E h => ?_) (fun cdv A outer s H vs Q E hr h => ?_)
  · obtain ⟨x, wd, n, rfl, _⟩ := h
    rfl
  · obtain ⟨x, wd, n, rfl, hx, w6, ln, n1000, k⟩ := h
    refine ⟨_, PSs.nox (pss_cons (ps_if (PW.pt (pw_or (pt_not (pt_val (pe_callB call_isi rfl zI PyProof.Rows.boot_isinstance (pa_cons (pv 0) (pa_cons (pe_bltn (v := .ty "str") rfl zs PyProof.Rows.boot_str rfl) pa_nil))))) (pw_or1 (PW.pt (pw_and (pt_cmpR op_notN (pv 2) pe_non (nomark _)) (pw_and1 (pt_cmpR op_gt (pe_callB call_len_str rfl zn boot_len (pa_cons (pv 0) pa_nil)) (pv 2) (nomark _)))))))) (pss_one (ps_ret pe_bl)) pss_nil)
      (pss_cons (ps_set (i := 3) scWord.nd rfl (.inr rfl) (pe_slice sl_str (pe_gstr rfl gL) po_none (po_some (pv 1))))
      (pss_one (ps_ret (pe_callB (cr_all rfl) rfl za (by decide +kernel) (pa_cons (pe_lc (own := [("letter", 4)]) (g := gName 4) (te := teIn) (by rfl) scWord.nd (pi_str (pv 0)) (blkOk_by (own := [("letter", 4)]) (N := ["thing", "letters", "most", "known", "letter"]) (sc := defScope s_is_word) (by decide +kernel)) (fun _ _ _ _ _ => pg_name (i := 4) scWord.nd rfl (Or.inl rfl)) (fun _ _ _ _ _ => pts_nil)
        (fun _ _ _ _ _ => by exact pe_cmpR op_in_sign (pv 4) (pv 3) (by rfl))) pa_nil)))))), ?_⟩
    refine ⟨_, rfl, .str (ws x), .ty "str", _, _, true, rfl, .ty _, .base (.str _), kit_ty (show kitB "str" "str" = some true by decide +kernel), _, rfl, ?_⟩
    refine ifF rfl ?_
    refine ⟨_, rfl, rfl, _, rfl, ?_⟩
    refine ifT rfl ⟨_, rfl, ws x, rfl, by rw [ws_len]; show x.length ≤ 16777216; omega, _, rfl, _, _, rfl, rfl, _, rfl, ?_⟩
    rw [ws_len, show decide (((n : Nat) : Int) < ((x.length : Nat) : Int)) = false from decide_eq_false (by omega)]
    refine ifF rfl ?_
    refine ⟨_, rfl, ((wd : Nat) : Int), rfl, ("abcdef" : Str), rfl, by decide, ?_⟩
    refine ⟨_, rfl, ws x, rfl, fun D nD => ?_⟩
    refine lc_it (walk_str (z := ws x)) (fun i Hd => But D H Hd ∧ Hd D = some (.lst ((List.replicate i true).map V.bl))) ⟨But.upd, upd_same⟩ (fun _ _ _ _ => True.intro) (fun i y Hd H' hi ⟨bd, hD⟩ ⟨e', c, hc, ey⟩ => ?_) (fun Hd ⟨bd, hD⟩ => ?_)
    · subst e' ey
      refine ⟨rfl, yesT ?_⟩
      obtain ⟨d, hd, rfl⟩ : ∃ d, x[i]? = some d ∧ c = 97 + d := by
        unfold ws at hc
        rw [List.getElem?_toArray] at hc
        obtain ⟨d, h1, h2⟩ := map_get hc
        exact ⟨d, h1, h2⟩
      refine ⟨_, rfl, _, rfl, 97 + d, _, rfl, rfl, ?_⟩
      rw [decide_eq_true (known_in (hx d (List.mem_of_getElem? hd)) w6)]
      refine ⟨_, hD, ?_, But.trans bd But.upd, ?_⟩
      · rw [List.length_map, List.length_replicate]
        have := get_lt hd
        show i < 16777216
        omega
      · rw [upd_same, List.replicate_succ', List.map_append]
        rfl
    · refine ⟨D, _, rfl, SqL.of hD, ?_⟩
      rw [all_true]
      exact k _ (Same.but (L2.Same.refl _) nD bd)
end
end K16

set_option Elab.async false
set_option linter.all false
set_option maxRecDepth 100000
set_option maxHeartbeats 8000000
namespace K16
open PySem PySem.Spec PyProof.Rows L2 Lf
def spCkW (K : PySem.W.Frag) : Sp := fun vs H Q _ => ∃ p rows m wd x n, vs = [.ref p, .str (ws x), .int (n : Nat)] ∧ Mo K H p rows m ∧ Form rows wd ∧ (∀ c ∈ x, c < wd) ∧ x.length ≤ n ∧ n ≤ 1000 ∧ ∀ H', Same H H' → Q .non H'
def spOfW (K : PySem.W.Frag) : Sp := fun vs H Q _ => ∃ p rows m wd x, vs = [.ref p, .str (ws x)] ∧ Mo K H p rows m ∧ Form rows wd ∧ (∀ c ∈ x, c < wd) ∧ x.length ≤ 100 ∧ ∀ H', Same H H' → Q (.int (Mon.walk rows 0 x : Nat)) H'
theorem letter_ix {c : Nat} (h : c < 6) : Builtin.Str.occurrences ("abcdef" : Str) ⟨#[97 + c]⟩ 0 ("abcdef" : Str).length 1 = [c] := by
  have : c = 0 ∨ c = 1 ∨ c = 2 ∨ c = 3 ∨ c = 4 ∨ c = 5 := by omega
  rcases this with rfl | rfl | rfl | rfl | rfl | rfl <;> decide +kernel
def rIdx : V → List V → Hp → VK → Prop := fun x xs H Q => ∃ a b i rest, x = .str a ∧ xs = [.str b] ∧ Builtin.Str.occurrences a b 0 a.length 1 = i :: rest ∧ Q (.int (i : Nat)) H
abbrev teIx (K : PySem.W.Frag) : TE := tBM K "str" rIdx (tC (.str ("abcdef" : Str))) (tCons (tVar 2) tNil)
section
variable {P : Program} {w : World} {K : PySem.W.Frag} {mg : Str → Option Value} {base : Heap}
theorem scCkW : FnScope ["self", "word", "most"] ["self", "word", "most"] (defScope s_Monoid_check_word) := ⟨rfl, rfl, rfl, by decide +kernel, rfl, by decide +kernel, by decide +kernel⟩
theorem ok_ckw {f : Addr} {fd : FuncData} {q : Str} (F : FunD K "_check_word" q (defArgs s_Monoid_check_word) (defBody s_Monoid_check_word) (defScope s_Monoid_check_word) [] [] f fd) (T : Txt P w K mg base)
    (DW : Def P w K mg base CX0 1 "is_word" ["thing", "letters", "most"] spWord) : FnOk P w K mg base CX0 2 f fd ["self", "word", "most"] (spCkW K) := by
  have cl : L2.Cls K (He.ga K "Monoid") := He.cls_ok (T.d.fact 49 (f := .cls "Monoid") rfl)
  have n1 : NoAttr K (He.ga K "Monoid") "right" := He.noat_ok (T.d.fact 65 (f := .noat "Monoid" "right") rfl)
  have zn : mg "len" = none := T.fr 42 "len" rfl
  refine F.ok scCkW (fun vs H Q E h => ?_) (fun cdv A outer s H vs Q E hr h => ?_)
  · obtain ⟨p, rows, m, wd, x, n, rfl, _⟩ := h
    rfl
  · obtain ⟨p, rows, m, wd, x, n, rfl, M, FO, hx, ln, n1000, k⟩ := h
    obtain ⟨dx, t, u, v, hp, R, _, _⟩ := id M.ex
    obtain ⟨as, sr, la, srow⟩ := R.ex
    obtain ⟨f1, f2, f3, f4, f5⟩ := FO
    obtain ⟨a0, ha0⟩ := lt_get (show 0 < as.length by omega)
    obtain ⟨row0, hrow0⟩ := lt_get (show 0 < rows.length by omega)
    have l0 := (f5 row0 (List.mem_of_getElem? hrow0)).1
    refine ⟨_, PSs.nox (pss_one (ps_if (pt_not (pt_val (pe_def DW hr pass0 rfl (pa_cons (pv 1) (pa_cons (pe_callB call_len_seq rfl zn boot_len (pa_cons (pe_ix ix_tup (pe_fld (pv 0) rfl) pe_int (fun _ _ => rfl)) pa_nil)) (pa_cons (pv 2) pa_nil)))))) (pss_one ps_never) pss_nil)), ?_⟩
    refine ⟨_, rfl, _, rfl, p, _, dx, _, _, rfl, hp, cl, n1, rfl, t, as.map V.ref, 0, .ref a0, rfl, rfl, sr, atI_nat (j := 0) (get_map ha0), a0, row0.map nv, rfl, .inr (srow 0 a0 row0 ha0 hrow0), _, rfl, x, wd, n, by rw [List.length_map, l0], hx, f4, ln, n1000, fun H1 s1 => ⟨_, rfl, ifF rfl (k H1 s1)⟩⟩
theorem scOfW : FnScope ["self", "word", "letter"] ["self", "word"] (defScope s_Monoid_of_word) := ⟨rfl, rfl, rfl, by decide +kernel, rfl, by decide +kernel, by decide +kernel⟩
theorem ok_ofw {f : Addr} {fd : FuncData} {q : Str} (F : FunD K "of_word" q (defArgs s_Monoid_of_word) (defBody s_Monoid_of_word) (defScope s_Monoid_of_word) [] [] f fd) (T : Txt P w K mg base)
    (DK : DefM P w K mg base CX0 2 "_check_word" ["self", "word", "most"] (spCkW K)) (DE : Def P w K mg base CX0 1 "_end" ["right", "start", "letters"] (spEnd K)) : FnOk P w K mg base CX0 3 f fd ["self", "word"] (spOfW K) := by
  have cl : L2.Cls K (He.ga K "Monoid") := He.cls_ok (T.d.fact 49 (f := .cls "Monoid") rfl)
  have n1 : NoAttr K (He.ga K "Monoid") "right" := He.noat_ok (T.d.fact 65 (f := .noat "Monoid" "right") rfl)
  obtain ⟨tL, gL⟩ := T.st 33 "LETTERS" "abcdef" rfl
  obtain ⟨tM, gM⟩ := T.it 32 "MOST_WORD" 100 rfl
  obtain ⟨fk, fdk, mk, Fk, bk⟩ := DK.ex
  refine F.ok scOfW (fun vs H Q E h => ?_) (fun cdv A outer s H vs Q E hr h => ?_)
  · obtain ⟨p, rows, m, wd, x, rfl, _⟩ := h
    rfl
  · obtain ⟨p, rows, m, wd, x, rfl, M, FO, hx, ln, k⟩ := h
    have r1 : Room 1 _ := hr.mono (by decide)
    have f4 := FO.2.2.2.1
    refine ⟨_, PSs.nox (pss_cons (ps_expr (pe_meth (pv 0) cl mk Fk hr bk .nil pass0 (pa_cons (pv 1) (pa_cons (pe_gint rfl gM) pa_nil))))
      (pss_one (ps_ret (pe_def DE r1 pass0 rfl (pa_cons (pe_fld (pv 0) rfl) (pa_cons pe_int (pa_cons (pe_lc (own := [("letter", 2)]) (g := gName 2) (te := teIx K) (by rfl) scOfW.nd (pi_str (pv 1)) (blkOk_by (own := [("letter", 2)]) (N := ["self", "word", "letter"]) (sc := defScope s_Monoid_of_word) (by decide +kernel)) (fun _ _ _ _ _ => pg_name (i := 2) scOfW.nd rfl (Or.inl rfl)) (fun _ _ _ _ _ => pts_nil)
        (fun _ _ _ _ _ => by exact pe_bm PySem.F.plainAttrs_str PySem.F.slot_str_index PySem.F.type_str_index mt_sindex (pe_gstr rfl gL) (pa_cons (pv 2) pa_nil))) pa_nil))))))), ?_⟩
    obtain ⟨dx, t, u, v, hp, R, _, _⟩ := id M.ex
    refine ⟨_, rfl, p, dx, _, rfl, hp, rfl, _, rfl, p, rows, m, wd, x, 100, rfl, M, FO, hx, ln, by decide, fun H1 s1 => ?_⟩
    refine ⟨_, rfl, p, _, dx, _, _, rfl, s1 _ _ hp, cl, n1, rfl, _, rfl, ws x, rfl, fun D nD => ?_⟩
    refine lc_it (walk_str (z := ws x)) (fun i Hd => But D H1 Hd ∧ Hd D = some (.lst ((x.take i).map nv))) ⟨But.upd, upd_same⟩ (fun _ _ _ _ => True.intro) (fun i y Hd H' hi ⟨bd, hD⟩ ⟨e', c, hc, ey⟩ => ?_) (fun Hd ⟨bd, hD⟩ => ?_)
    · subst e' ey
      refine ⟨rfl, yesT ?_⟩
      obtain ⟨d, hd, rfl⟩ : ∃ d, x[i]? = some d ∧ c = 97 + d := by
        unfold ws at hc
        rw [List.getElem?_toArray] at hc
        obtain ⟨d, h1, h2⟩ := map_get hc
        exact ⟨d, h1, h2⟩
      have dl := hx d (List.mem_of_getElem? hd)
      refine ⟨rfl, _, rfl, ("abcdef" : Str), ⟨#[97 + d]⟩, d, [], rfl, rfl, letter_ix (by omega), ?_⟩
      refine ⟨_, hD, ?_, But.trans bd But.upd, ?_⟩
      · rw [List.length_map, List.length_take]
        show min i x.length < 16777216
        omega
      · rw [upd_same, take_snoc hd, List.map_append]
        rfl
    · have sd := Same.but (L2.Same.refl _) nD bd
      have e : (ws x).cps.size = x.length := by simp [ws]
      rw [e, List.take_length] at hD
      exact ⟨t, D, rows, wd, 0, x, rfl, (R.same s1).same sd, FO, by have := FO.1; omega, SqL.of hD, hx, k _ (s1.trans sd)⟩
end
end K16

set_option Elab.async false
set_option linter.all false
set_option maxRecDepth 100000
set_option maxHeartbeats 2000000
/-! Least words that lead somewhere, found level by level: pure, for letters put behind or in front. -/
namespace Mon
/-- texts of one length, in their order -/
def llt : List Nat → List Nat → Prop
  | a :: x, b :: y => a < b ∨ a = b ∧ llt x y
  | _, _ => False
theorem llt_irr : ∀ {x : List Nat}, ¬ llt x x
  | [], h => h
  | a :: x, h => by
    rcases h with h | ⟨_, h⟩
    · omega
    · exact llt_irr h
theorem llt_trans : ∀ {x y z : List Nat}, llt x y → llt y z → llt x z
  | [], _, _, h, _ => h.elim
  | _ :: _, [], _, h, _ => h.elim
  | _ :: _, _ :: _, [], _, h => h.elim
  | a :: x, b :: y, c :: z, h, k => by
    rcases h with h | ⟨rfl, h⟩
    · rcases k with k | ⟨rfl, k⟩
      · exact .inl (by omega)
      · exact .inl h
    · rcases k with k | ⟨rfl, k⟩
      · exact .inl k
      · exact .inr ⟨rfl, llt_trans h k⟩
theorem llt_tot : ∀ {x y : List Nat}, x.length = y.length → llt x y ∨ x = y ∨ llt y x
  | [], [], _ => .inr (.inl rfl)
  | [], _ :: _, h => by simp at h
  | _ :: _, [], h => by simp at h
  | a :: x, b :: y, h => by
    rcases Nat.lt_trichotomy a b with q | rfl | q
    · exact .inl (.inl q)
    · rcases llt_tot (x := x) (y := y) (by simpa using h) with r | rfl | r
      · exact .inl (.inr ⟨rfl, r⟩)
      · exact .inr (.inl rfl)
      · exact .inr (.inr (.inr ⟨rfl, r⟩))
    · exact .inr (.inr (.inl q))
theorem llt_app : ∀ {x y : List Nat} {u v : List Nat}, llt x y → llt (x ++ u) (y ++ v)
  | [], _, _, _, h => h.elim
  | _ :: _, [], _, _, h => h.elim
  | a :: x, b :: y, u, v, h => by
    rcases h with h | ⟨rfl, h⟩
    · exact .inl h
    · exact .inr ⟨rfl, llt_app h⟩
theorem llt_snoc : ∀ {x : List Nat} {c d : Nat}, c < d → llt (x ++ [c]) (x ++ [d])
  | [], c, d, h => .inl h
  | a :: x, c, d, h => .inr ⟨rfl, llt_snoc h⟩
/-- how words grow by a letter -/
structure Wy (wd : Nat) (ext : Nat → List Nat → List Nat) : Prop where
  len : ∀ c u, (ext c u).length = u.length + 1
  let' : ∀ c u, c < wd → (∀ d ∈ u, d < wd) → ∀ d ∈ ext c u, d < wd
  split : ∀ w : List Nat, w ≠ [] → (∀ d ∈ w, d < wd) → ∃ c u, w = ext c u ∧ c < wd ∧ ∀ d ∈ u, d < wd
  mono : ∀ c u v, llt u v → llt (ext c u) (ext c v)
theorem wy_back {wd : Nat} : Wy wd (fun c u => u ++ [c]) where
  len := fun c u => by simp
  let' := fun c u hc hu d hd => by
    rcases List.mem_append.mp hd with h | h
    · exact hu d h
    · rw [List.mem_singleton.mp h]; exact hc
  split := fun w hw hl => by
    have e := List.dropLast_concat_getLast hw
    refine ⟨w.getLast hw, w.dropLast, e.symm, hl _ (List.getLast_mem hw), fun d hd => hl d ((List.dropLast_sublist w).subset hd)⟩
  mono := fun c u v h => llt_app h
theorem wy_front {wd : Nat} : Wy wd (fun c u => c :: u) where
  len := fun c u => rfl
  let' := fun c u hc hu d hd => by
    rcases List.mem_cons.mp hd with rfl | h
    · exact hc
    · exact hu d h
  split := fun w hw hl => by
    match w, hw with
    | c :: u, _ => exact ⟨c, u, rfl, hl c List.mem_cons_self, fun d hd => hl d (List.mem_cons_of_mem _ hd)⟩
  mono := fun c u v h => .inr ⟨rfl, h⟩
section
variable {wd : Nat} {ext : Nat → List Nat → List Nat} {act : List Nat → Nat} {f : Nat → Nat → Nat}
/-- w is the first word that leads to t -/
structure First (wd : Nat) (act : List Nat → Nat) (t : Nat) (w : List Nat) : Prop where
  ok : ∀ d ∈ w, d < wd
  at' : act w = t
  least : ∀ v : List Nat, (∀ d ∈ v, d < wd) → act v = t → w.length < v.length ∨ w.length = v.length ∧ (w = v ∨ llt w v)
theorem First.uniq {t : Nat} {w v : List Nat} (a : First wd act t w) (b : First wd act t v) : w = v := by
  rcases a.least v b.ok b.at' with h | ⟨h, rfl | h⟩
  · rcases b.least w a.ok a.at' with k | ⟨k, _⟩ <;> omega
  · rfl
  · rcases b.least w a.ok a.at' with k | ⟨k, rfl | k⟩
    · omega
    · rfl
    · exact (llt_irr (llt_trans h k)).elim
abbrev nums (K : List (Nat × List Nat)) : List Nat := K.map (·.1)
/-- what is known when k levels are done -/
structure Lev (wd : Nat) (act : List Nat → Nat) (k : Nat) (K L : List (Nat × List Nat)) : Prop where
  fst : ∀ p ∈ K, First wd act p.1 p.2 ∧ p.2.length ≤ k
  clo : ∀ v : List Nat, (∀ d ∈ v, d < wd) → v.length ≤ k → act v ∈ nums K
  lev : ∀ p, p ∈ L ↔ p ∈ K ∧ p.2.length = k
  srt : L.Pairwise fun p q => llt p.2 q.2
theorem Lev.zero {s : Nat} (h0 : act [] = s) : Lev wd act 0 [(s, [])] [(s, [])] where
  fst := fun p hp => by
    rw [List.mem_singleton.mp hp]
    exact ⟨⟨(fun d hd => nomatch hd), h0, (fun v hv _ => by
      cases v with
      | nil => exact .inr ⟨rfl, .inl rfl⟩
      | cons a r => exact .inl (by simp))⟩, Nat.le_refl _⟩
  clo := fun v hv hl => by
    cases v with
    | nil => simp [h0]
    | cons a r => simp at hl
  lev := fun p => ⟨fun h => ⟨h, by rw [List.mem_singleton.mp h]; rfl⟩, fun h => h.1⟩
  srt := by simp
/-- while the level's words are grown: cs what comes, pre of it seen, N what is new -/
structure Mid (wd : Nat) (ext : Nat → List Nat → List Nat) (act : List Nat → Nat) (f : Nat → Nat → Nat) (k : Nat) (K L cs : List (Nat × List Nat)) : Prop where
  wy : Wy wd ext
  step : ∀ c u, act (ext c u) = f (act u) c
  lv : Lev wd act k K L
  mem : ∀ q, q ∈ cs ↔ ∃ p c, p ∈ L ∧ c < wd ∧ q = (f p.1 c, ext c p.2)
  srt : cs.Pairwise fun p q => llt p.2 q.2
/-- what is new when the first i of cs are seen -/
structure New (wd : Nat) (act : List Nat → Nat) (k : Nat) (K cs : List (Nat × List Nat)) (i : Nat) (N : List (Nat × List Nat)) : Prop where
  fst : ∀ p ∈ N, First wd act p.1 p.2 ∧ p.2.length = k + 1
  seen : ∀ q ∈ cs.take i, q.1 ∈ nums (K ++ N)
  sub : N.Sublist (cs.take i)
theorem New.zero {k : Nat} {K cs : List (Nat × List Nat)} : New wd act k K cs 0 [] :=
  ⟨fun p hp => (by cases hp), fun q hq => (by simp at hq), by simp⟩
theorem take_succ' {α : Type} {l : List α} {i : Nat} {x : α} (h : l[i]? = some x) : l.take (i + 1) = l.take i ++ [x] := by
  rw [List.take_add_one, h]
  rfl
theorem New.old {k i : Nat} {K cs N : List (Nat × List Nat)} (h : New wd act k K cs i N) {q : Nat × List Nat} (hq : cs[i]? = some q) (hn : q.1 ∈ nums (K ++ N)) : New wd act k K cs (i + 1) N where
  fst := h.fst
  seen := fun r hr => by
    rw [take_succ' hq] at hr
    rcases List.mem_append.mp hr with hr | hr
    · exact h.seen r hr
    · rw [List.mem_singleton.mp hr]; exact hn
  sub := h.sub.trans (by rw [take_succ' hq]; exact List.sublist_append_left _ _)
theorem Mid.new {k i : Nat} {K L cs N : List (Nat × List Nat)} (M : Mid wd ext act f k K L cs) (h : New wd act k K cs i N) {q : Nat × List Nat} (hq : cs[i]? = some q) (hn : q.1 ∉ nums (K ++ N)) : New wd act k K cs (i + 1) (N ++ [q]) := by
  obtain ⟨p, c, hp, hc, eq⟩ := (M.mem q).mp (List.mem_of_getElem? hq)
  obtain ⟨pK, pl⟩ := (M.lv.lev p).mp hp
  obtain ⟨Fp, _⟩ := M.lv.fst p pK
  have ln : q.2.length = k + 1 := by rw [eq, M.wy.len, pl]
  have F : First wd act q.1 q.2 := by
    refine ⟨by rw [eq]; exact M.wy.let' c p.2 hc Fp.ok, by rw [eq, M.step, Fp.at'], fun v hv hvt => ?_⟩
    have far : k < v.length := by
      by_cases hl : v.length ≤ k
      · have := M.lv.clo v hv hl
        rw [hvt] at this
        exact absurd (by rw [nums, List.map_append]; exact List.mem_append_left _ this) hn
      · omega
    by_cases h1 : v.length = k + 1
    · obtain ⟨c', u, ev, hc', hu⟩ := M.wy.split v (fun e => by rw [e] at far; simp at far) hv
      have lu : u.length = k := by rw [ev, M.wy.len] at h1; omega
      obtain ⟨r, hr, er⟩ := List.mem_map.mp (M.lv.clo u hu (by omega))
      obtain ⟨Fr, lr⟩ := M.lv.fst r hr
      have tr : act (ext c' r.2) = q.1 := by rw [M.step, Fr.at', er, ← M.step, ← ev, hvt]
      by_cases h2 : r.2.length = k
      · have rL := (M.lv.lev r).mpr ⟨hr, h2⟩
        have rc : (q.1, ext c' r.2) ∈ cs := (M.mem _).mpr ⟨r, c', rL, hc', by rw [← tr, M.step, Fr.at']⟩
        have le1 : ext c' r.2 = v ∨ llt (ext c' r.2) v := by
          rcases Fr.least u hu er.symm with z | ⟨_, z | z⟩
          · omega
          · exact .inl (by rw [z, ← ev])
          · exact .inr (by rw [ev]; exact M.wy.mono _ _ _ z)
        have le2 : q.2 = ext c' r.2 ∨ llt q.2 (ext c' r.2) := by
          obtain ⟨j, hj⟩ := List.getElem?_of_mem rc
          have nj : ¬ j < i := fun z => hn (h.seen (q.1, ext c' r.2) (List.mem_of_getElem? (i := j) (by rw [List.getElem?_take_of_lt z]; exact hj)))
          by_cases e : j = i
          · subst e
            rw [hq] at hj
            exact .inl (by rw [Option.some.inj hj])
          · have li := get_lt' hq
            have lj := get_lt' hj
            have z := List.pairwise_iff_getElem.mp M.srt i j li lj (by omega)
            rw [List.getElem?_eq_getElem li] at hq
            rw [List.getElem?_eq_getElem lj] at hj
            rw [Option.some.inj hq, Option.some.inj hj] at z
            exact .inr z
        refine .inr ⟨by omega, ?_⟩
        rcases le2 with a | a <;> rcases le1 with b | b
        · exact .inl (a.trans b)
        · exact .inr (a ▸ b)
        · exact .inr (b ▸ a)
        · exact .inr (llt_trans a b)
      · have := M.lv.clo (ext c' r.2) (M.wy.let' _ _ hc' Fr.ok) (by rw [M.wy.len]; omega)
        rw [tr] at this
        exact absurd (by rw [nums, List.map_append]; exact List.mem_append_left _ this) hn
    · exact .inl (by omega)
  refine ⟨fun r hr => ?_, fun r hr => ?_, ?_⟩
  · rcases List.mem_append.mp hr with hr | hr
    · exact h.fst r hr
    · rw [List.mem_singleton.mp hr]
      exact ⟨F, ln⟩
  · rw [take_succ' hq] at hr
    rw [nums, ← List.append_assoc, List.map_append]
    rcases List.mem_append.mp hr with hr | hr
    · exact List.mem_append_left _ (h.seen r hr)
    · rw [List.mem_singleton.mp hr]
      exact List.mem_append_right _ (by simp)
  · rw [take_succ' hq]
    exact List.Sublist.append h.sub (List.Sublist.refl _)
/-- the level is done -/
theorem Mid.done {k : Nat} {K L cs N : List (Nat × List Nat)} (M : Mid wd ext act f k K L cs) (h : New wd act k K cs cs.length N) : Lev wd act (k + 1) (K ++ N) N where
  fst := fun p hp => by
    rcases List.mem_append.mp hp with hp | hp
    · obtain ⟨a, b⟩ := M.lv.fst p hp
      exact ⟨a, by omega⟩
    · obtain ⟨a, b⟩ := h.fst p hp
      exact ⟨a, by omega⟩
  clo := fun v hv hl => by
    by_cases h1 : v.length ≤ k
    · rw [nums, List.map_append]
      exact List.mem_append_left _ (M.lv.clo v hv h1)
    · obtain ⟨c', u, ev, hc', hu⟩ := M.wy.split v (fun e => by rw [e] at h1; simp at h1) hv
      have lu : u.length = k := by
        have := M.wy.len c' u
        rw [← ev] at this
        omega
      obtain ⟨r, hr, er⟩ := List.mem_map.mp (M.lv.clo u hu (by omega))
      obtain ⟨Fr, lr⟩ := M.lv.fst r hr
      have tr : act (ext c' r.2) = act v := by rw [M.step, Fr.at', er, ← M.step, ← ev]
      by_cases h2 : r.2.length = k
      · have rL := (M.lv.lev r).mpr ⟨hr, h2⟩
        have rc : (act v, ext c' r.2) ∈ cs := (M.mem _).mpr ⟨r, c', rL, hc', by rw [← tr, M.step, Fr.at']⟩
        exact h.seen _ (by rw [List.take_length]; exact rc)
      · have := M.lv.clo (ext c' r.2) (M.wy.let' _ _ hc' Fr.ok) (by rw [M.wy.len]; omega)
        rw [tr] at this
        rw [nums, List.map_append]
        exact List.mem_append_left _ this
  lev := fun p => ⟨fun hp => ⟨List.mem_append_right _ hp, (h.fst p hp).2⟩, fun ⟨hp, hl⟩ => by
    rcases List.mem_append.mp hp with hp | hp
    · have := (M.lv.fst p hp).2
      omega
    · exact hp⟩
  srt := M.srt.sublist (by have := h.sub; rwa [List.take_length] at this)
/-- nothing on the level: all that is led to is known -/
theorem Lev.all {k : Nat} {K : List (Nat × List Nat)} (wy : Wy wd ext) (step : ∀ c u, act (ext c u) = f (act u) c) (h : Lev wd act k K []) : ∀ (n : Nat) (v : List Nat), v.length ≤ n → (∀ d ∈ v, d < wd) → act v ∈ nums K
  | 0, v, hl, hv => h.clo v hv (by omega)
  | n + 1, v, hl, hv => by
    by_cases h0 : v = []
    · rw [h0]
      exact h.clo [] (fun d hd => nomatch hd) (Nat.zero_le _)
    · obtain ⟨c', u, ev, hc', hu⟩ := wy.split v h0 hv
      have lu : u.length ≤ n := by
        have := wy.len c' u
        rw [← ev] at this
        omega
      obtain ⟨r, hr, er⟩ := List.mem_map.mp (Lev.all wy step h n u lu hu)
      obtain ⟨Fr, lr⟩ := h.fst r hr
      have tr : act (ext c' r.2) = act v := by rw [step, Fr.at', er, ← step, ← ev]
      have nl : r.2.length ≠ k := fun e => by
        have := (h.lev r).mpr ⟨hr, e⟩
        cases this
      rw [← tr]
      exact h.clo _ (wy.let' _ _ hc' Fr.ok) (by rw [wy.len]; omega)
end
end Mon
namespace Mon
def stp (rows : List (List Nat)) (r c : Nat) : Nat := (rows.getD r []).getD c 0
def extB (b : Bool) (c : Nat) (u : List Nat) : List Nat := if b = true then c :: u else u ++ [c]
def actB (b : Bool) (rows : List (List Nat)) (s : Nat) (w : List Nat) : Nat := if b = true then w.foldr (fun c r => stp rows r c) s else walk rows s w
theorem actB_nil {b : Bool} {rows : List (List Nat)} {s : Nat} : actB b rows s [] = s := by cases b <;> rfl
theorem actB_ext {b : Bool} {rows : List (List Nat)} {s : Nat} (c : Nat) (u : List Nat) : actB b rows s (extB b c u) = stp rows (actB b rows s u) c := by
  cases b
  · show walk rows s (u ++ [c]) = _
    rw [walk_app]
    rfl
  · rfl
theorem wyB {b : Bool} {wd : Nat} : Wy wd (extB b) := by
  cases b
  · exact wy_back
  · exact wy_front
/-- the steps from a level, in the order in which they are tried -/
def stepsB (b : Bool) (wd : Nat) (L : List (Nat × List Nat)) : List ((Nat × List Nat) × Nat) := if b = true then (List.range wd).flatMap fun c => L.map fun p => (p, c) else L.flatMap fun p => (List.range wd).map fun c => (p, c)
def candB (b : Bool) (rows : List (List Nat)) (q : (Nat × List Nat) × Nat) : Nat × List Nat := (stp rows q.1.1 q.2, extB b q.2 q.1.2)
theorem mem_steps {b : Bool} {wd : Nat} {L : List (Nat × List Nat)} {q : (Nat × List Nat) × Nat} : q ∈ stepsB b wd L ↔ q.1 ∈ L ∧ q.2 < wd := by
  cases b
  · simp only [stepsB, Bool.false_eq_true, if_false, List.mem_flatMap, List.mem_map, List.mem_range]
    exact ⟨fun ⟨p, hp, c, hc, e⟩ => by subst e; exact ⟨hp, hc⟩, fun ⟨hp, hc⟩ => ⟨q.1, hp, q.2, hc, rfl⟩⟩
  · simp only [stepsB, if_true, List.mem_flatMap, List.mem_map, List.mem_range]
    exact ⟨fun ⟨c, hc, p, hp, e⟩ => by subst e; exact ⟨hp, hc⟩, fun ⟨hp, hc⟩ => ⟨q.2, hc, q.1, hp, rfl⟩⟩
theorem pw_flat {α β : Type} {R : β → β → Prop} {f : α → List β} : ∀ {l : List α}, (∀ a ∈ l, (f a).Pairwise R) → l.Pairwise (fun a a' => ∀ x ∈ f a, ∀ y ∈ f a', R x y) → (l.flatMap f).Pairwise R
  | [], _, _ => by simp
  | a :: l, h, k => by
    obtain ⟨k1, k2⟩ := List.pairwise_cons.mp k
    rw [List.flatMap_cons, List.pairwise_append]
    refine ⟨h a List.mem_cons_self, pw_flat (fun b hb => h b (List.mem_cons_of_mem _ hb)) k2, fun x hx y hy => ?_⟩
    obtain ⟨b, hb, hy⟩ := List.mem_flatMap.mp hy
    exact k1 b hb x hx y hy
theorem srt_steps {b : Bool} {rows : List (List Nat)} {wd : Nat} {L : List (Nat × List Nat)} (h : L.Pairwise fun p q => llt p.2 q.2) (len : ∀ p ∈ L, ∀ q ∈ L, p.2.length = q.2.length) : ((stepsB b wd L).map (candB b rows)).Pairwise fun p q => llt p.2 q.2 := by
  rw [List.pairwise_map]
  have rg : (List.range wd).Pairwise (· < ·) := List.pairwise_lt_range
  cases b
  · simp only [stepsB, Bool.false_eq_true, if_false]
    refine pw_flat (fun p hp => ?_) (h.imp fun {p q} hpq x hx y hy => ?_)
    · rw [List.pairwise_map]
      exact rg.imp fun {c d} hcd => llt_snoc hcd
    · obtain ⟨c, hc, rfl⟩ := List.mem_map.mp hx
      obtain ⟨d, hd, rfl⟩ := List.mem_map.mp hy
      exact llt_app hpq
  · simp only [stepsB, if_true]
    refine pw_flat (fun c hc => ?_) (rg.imp fun {c d} hcd x hx y hy => ?_)
    · rw [List.pairwise_map]
      exact h.imp fun {p q} hpq => .inr ⟨rfl, hpq⟩
    · obtain ⟨p, hp, rfl⟩ := List.mem_map.mp hx
      obtain ⟨q, hq, rfl⟩ := List.mem_map.mp hy
      exact .inl hcd
theorem midB {b : Bool} {rows : List (List Nat)} {wd s k : Nat} {K L : List (Nat × List Nat)} (h : Lev wd (actB b rows s) k K L) : Mid wd (extB b) (actB b rows s) (stp rows) k K L ((stepsB b wd L).map (candB b rows)) where
  wy := wyB
  step := actB_ext
  lv := h
  mem := fun q => by
    rw [List.mem_map]
    exact ⟨fun ⟨r, hr, e⟩ => ⟨r.1, r.2, (mem_steps.mp hr).1, (mem_steps.mp hr).2, e.symm⟩, fun ⟨p, c, hp, hc, e⟩ => ⟨(p, c), mem_steps.mpr ⟨hp, hc⟩, e.symm⟩⟩
  srt := srt_steps h.srt fun p hp q hq => by rw [((h.lev p).mp hp).2, ((h.lev q).mp hq).2]
/-- what the least ways are -/
structure Ways (b : Bool) (rows : List (List Nat)) (wd s t : Nat) (K : List (Nat × List Nat)) : Prop where
  fst : ∀ p ∈ K, First wd (actB b rows s) p.1 p.2
  nd : (nums K).Nodup
  short : ∀ p ∈ K, p.2.length ≤ 2000 ∧ p.2.length < rows.length
  all : t ∈ nums K ∨ ∀ v : List Nat, (∀ d ∈ v, d < wd) → actB b rows s v ≠ t
end Mon

set_option Elab.async false
set_option linter.all false
set_option maxRecDepth 100000
set_option maxHeartbeats 8000000
namespace K16
open PySem PySem.Spec PyProof.Rows L2 Lf
/-- over two lists: every item of one with every item of the other -/
theorem lc2_lists {K : PySem.W.Frag} {a b : Addr} {xs ys : List V} {gi gj tk : Nat} {te : TE} {vs vs1 : List Nat} {σ : L2.St} {H1 : Hp} {D : Addr} {Qd : Hp → Prop} (Pv : Nat → Nat → Hp → Prop) (h0 : Pv 0 0 (L2.upd H1 D (.lst [])))
    (hl : ∀ i j H, Pv i j H → SqL K H a xs ∧ SqL K H b ys) (hn : ∀ i H, i < xs.length → Pv i ys.length H → Pv (i + 1) 0 H)
    (hw : ∀ x, wipe ((wipe σ vs).set gi (some x)) vs = wipe σ vs) (hb : ∀ x, ((wipe σ vs).set gi (some x))[tk]? = some (some (.ref b)))
    (hw1 : ∀ x y, wipe ((wipe ((wipe σ vs).set gi (some x)) vs1).set gj (some y)) vs1 = wipe ((wipe σ vs).set gi (some x)) vs1)
    (ho : ∀ i j x y H, xs[i]? = some x → ys[j]? = some y → Pv i j H → te ((wipe ((wipe σ vs).set gi (some x)) vs1).set gj (some y)) H fun z H7 => ∃ acc, H7 D = some (.lst acc) ∧ acc.length < sizeLine ∧ Pv i (j + 1) (L2.upd H7 D (.lst (acc ++ [z])))) (hd : ∀ H, Pv xs.length 0 H → Qd H) :
    ∃ W : Nat → Nat → Hp → Prop, (∃ m, W 0 m (L2.upd H1 D (.lst []))) ∧ ∀ i m H, W i m H →
      ((Itl K a).stop i H ∧ Qd H) ∨ ((Itl K a).go i H ∧ ∃ Nx : Hp → Prop, (∀ H', Nx H' → ∃ m', m' < m ∧ W (i + 1) m' H') ∧ ∀ x H', (Itl K a).yld i H x H' → gName gi x (wipe σ vs) H' fun σ2 H2 => wipe σ2 vs = wipe σ vs ∧ tYes σ2 H2 fun c H3 =>
        if c = true then iList K (tVar tk) σ2 H3 fun J1 H4 => ∃ W1 : Nat → Nat → Hp → Prop, (∃ m, W1 0 m H4) ∧ ∀ j k H, W1 j k H →
          (J1.stop j H ∧ Nx H) ∨ (J1.go j H ∧ ∃ Nx1 : Hp → Prop, (∀ H', Nx1 H' → ∃ k', k' < k ∧ W1 (j + 1) k' H') ∧ ∀ x H', J1.yld j H x H' → gName gj x (wipe σ2 vs1) H' fun σ3 H5 => wipe σ3 vs1 = wipe σ2 vs1 ∧ tYes σ3 H5 fun c H6 =>
            if c = true then te σ3 H6 fun y H7 => ∃ acc, H7 D = some (.lst acc) ∧ acc.length < sizeLine ∧ Nx1 (L2.upd H7 D (.lst (acc ++ [y]))) else Nx1 H6)
        else Nx H3) := by
  refine ⟨fun i m H => m = xs.length - i ∧ i ≤ xs.length ∧ Pv i 0 H, ⟨xs.length, by simp, Nat.zero_le _, h0⟩, ?_⟩
  rintro i m H ⟨rfl, hi, p⟩
  obtain ⟨qa, qb⟩ := hl i 0 H p
  by_cases hlt : i < xs.length
  · refine .inr ⟨⟨xs, xs[i], qa, by simp [hlt]⟩, Pv (i + 1) 0, fun H' p' => ⟨xs.length - (i + 1), by omega, rfl, hlt, p'⟩, fun x H' y => ?_⟩
    obtain ⟨e, y⟩ := y
    subst e
    have hx := y xs qa
    refine ⟨hw x, yesT ?_⟩
    refine ⟨_, hb x, b, rfl, ⟨_, qb⟩, ?_⟩
    refine ⟨fun j k H => k = ys.length - j ∧ j ≤ ys.length ∧ Pv i j H, ⟨ys.length, by simp, Nat.zero_le _, p⟩, ?_⟩
    rintro j k Hj ⟨rfl, hj, pj⟩
    obtain ⟨ra, rb⟩ := hl i j Hj pj
    by_cases jlt : j < ys.length
    · refine .inr ⟨⟨ys, ys[j], rb, by simp [jlt]⟩, Pv i (j + 1), fun H' p' => ⟨ys.length - (j + 1), by omega, rfl, jlt, p'⟩, fun y' H' z => ?_⟩
      obtain ⟨e, z⟩ := z
      subst e
      exact ⟨hw1 x y', yesT (ho i j x y' _ hx (z ys rb) pj)⟩
    · have e : j = ys.length := by omega
      subst e
      exact .inl ⟨⟨ys, rb, Nat.le_refl _⟩, hn i Hj hlt pj⟩
  · have e : i = xs.length := by omega
    subst e
    exact .inl ⟨⟨xs, qa, Nat.le_refl _⟩, hd H p⟩
abbrev NY : List Str := ["table", "one", "is_front", "last", "words", "level", "letters", "letter", "number", "steps", "reached", "sign"]
/-- pairs of number and letter, tuples -/
abbrev tePr : TE := tTup (tCons (tVar 8) (tCons (tVar 7) tNil))
/-- words by their numbers -/
def wT (l : List (Nat × List Nat)) : List (Key × V) := l.map fun p => (ik p.1, wv p.2)
theorem gName_k {i : Nat} {v : V} {σ : L2.St} {H : Hp} {Q : L2.St → Hp → Prop} (h : Q (σ.set i (some v)) H) : gName i v σ H Q := h
theorem tSeq_k {t u : TS} {D : Ends} {σ : L2.St} {H : Hp} (h : t { D with nx := u D } σ H) : tSeq t u D σ H := h
theorem tIfS_k {t : TT} {A B : TS} {D : Ends} {σ : L2.St} {H : Hp} (R : L2.St → Hp → Prop) (h : (∀ σ' H', R σ' H' → D.nx σ' H') → tIfS t A B D σ H) (hR : ∀ σ' H', R σ' H' → D.nx σ' H') : tIfS t A B D σ H := h hR
/-- steps, as they lie -/
structure Acc (H : Hp) (D : Addr) (qs : List ((Nat × List Nat) × Nat)) : Prop where
  ex : ∃ prs : List Addr, H D = some (.lst (prs.map V.ref)) ∧ prs.length = qs.length ∧ ∀ (j : Nat) a q, prs[j]? = some a → qs[j]? = some q → H a = some (.tup [nv q.1.1, nv q.2])
theorem Acc.same {H H' : Hp} {D : Addr} {qs : List ((Nat × List Nat) × Nat)} (h : Acc H D qs) (e : Same H H') : Acc H' D qs := by
  obtain ⟨prs, a, b, c⟩ := h.ex
  exact ⟨prs, e _ _ a, b, fun j x q h1 h2 => e _ _ (c j x q h1 h2)⟩
theorem Acc.add {H : Hp} {D t : Addr} {qs : List ((Nat × List Nat) × Nat)} {q : (Nat × List Nat) × Nat} {acc : List V} (h : Acc H D qs) (ha : H D = some (.lst acc)) (ht : H t = some (.tup [nv q.1.1, nv q.2])) : Acc (L2.upd H D (.lst (acc ++ [.ref t]))) D (qs ++ [q]) := by
  obtain ⟨prs, a, b, c⟩ := h.ex
  have e : acc = prs.map V.ref := by
    rw [a] at ha
    injection ha with ha
    injection ha with ha
    exact ha.symm
  subst e
  refine ⟨prs ++ [t], by rw [upd_same]; simp, by simp [b], fun j x r h1 h2 => ?_⟩
  have f : H x = some (.tup [nv r.1.1, nv r.2]) := by
    rcases Mon.snoc_cases h1 with h1 | ⟨e1, rfl⟩
    · rcases Mon.snoc_cases h2 with h2 | ⟨e2, rfl⟩
      · exact c j x r h1 h2
      · have := get_lt h1
        omega
    · rcases Mon.snoc_cases h2 with h2 | ⟨_, rfl⟩
      · have := get_lt h2
        omega
      · exact ht
  rw [upd_ne (fun z => by rw [z, a] at f; cases f)]
  exact f
/-- all pairs until the j-th of the i-th row -/
def seen {α β γ : Type} (XS : List α) (YS : List β) (mk : α → β → γ) (i j : Nat) : List γ := (XS.take i).flatMap (fun a => YS.map (mk a)) ++ (match XS[i]? with | some a => (YS.take j).map (mk a) | none => [])
theorem seen_0 {α β γ : Type} {XS : List α} {YS : List β} {mk : α → β → γ} : seen XS YS mk 0 0 = [] := by
  unfold seen
  cases XS[0]? <;> rfl
theorem seen_row {α β γ : Type} {XS : List α} {YS : List β} {mk : α → β → γ} {i : Nat} (h : i < XS.length) : seen XS YS mk i YS.length = seen XS YS mk (i + 1) 0 := by
  obtain ⟨x, hx⟩ := lt_get h
  unfold seen
  rw [take_snoc hx, hx, List.flatMap_append]
  cases XS[i + 1]? <;> simp
theorem seen_step {α β γ : Type} {XS : List α} {YS : List β} {mk : α → β → γ} {i j : Nat} {a : α} {b : β} (ha : XS[i]? = some a) (hb : YS[j]? = some b) : seen XS YS mk i (j + 1) = seen XS YS mk i j ++ [mk a b] := by
  unfold seen
  rw [ha, take_snoc hb]
  simp
theorem seen_all {α β γ : Type} {XS : List α} {YS : List β} {mk : α → β → γ} : seen XS YS mk XS.length 0 = XS.flatMap fun a => YS.map (mk a) := by
  unfold seen
  rw [List.getElem?_eq_none (Nat.le_refl _)]
  simp
theorem flat_len {α β γ : Type} {YS : List β} {mk : α → β → γ} : ∀ {l : List α}, (l.flatMap fun a => YS.map (mk a)).length = l.length * YS.length
  | [] => by simp
  | a :: l => by rw [List.flatMap_cons, List.length_append, flat_len, List.length_map, List.length_cons, Nat.succ_mul, Nat.add_comm]
theorem seen_len {α β γ : Type} {XS : List α} {YS : List β} {mk : α → β → γ} {i j : Nat} : (seen XS YS mk i j).length ≤ (XS.length + 1) * YS.length := by
  unfold seen
  rw [List.length_append, flat_len, List.length_take, Nat.succ_mul]
  have h1 : min i XS.length * YS.length ≤ XS.length * YS.length := Nat.mul_le_mul_right _ (Nat.min_le_right _ _)
  have h2 : (match XS[i]? with | some a => (YS.take j).map (mk a) | none => []).length ≤ YS.length := by
    cases XS[i]? with
    | none => exact Nat.zero_le _
    | some a =>
      show ((YS.take j).map (mk a)).length ≤ _
      rw [List.length_map, List.length_take]
      exact Nat.min_le_right _ _
  omega
theorem lev_few {wd k n : Nat} {act : List Nat → Nat} {Kn L : List (Nat × List Nat)} (h : Mon.Lev wd act k Kn L) (nd : (Mon.nums Kn).Nodup) (lt : ∀ p ∈ Kn, p.1 < n) : Kn.length ≤ n ∧ L.length ≤ Kn.length := by
  constructor
  · have := Mon.nodup_lt n (Mon.nums Kn) nd fun x hx => by
      obtain ⟨p, hp, rfl⟩ := List.mem_map.mp hx
      exact lt p hp
    rwa [Mon.nums, List.length_map] at this
  · refine Mon.sub_len (h.srt.imp fun {p q} hpq e => ?_) fun p hp => ((h.lev p).mp hp).1
    rw [e] at hpq
    exact Mon.llt_irr hpq
theorem lev_short {wd k : Nat} {act : List Nat → Nat} {Kn L : List (Nat × List Nat)} (h : Mon.Lev wd act k Kn L) (kl : k ≤ Kn.length) (kl2 : L ≠ [] → k + 1 ≤ Kn.length) {p : Nat × List Nat} (hp : p ∈ Kn) : p.2.length < Kn.length := by
  have l := (h.fst p hp).2
  by_cases e : p.2.length = k
  · have hL := (h.lev p).mpr ⟨hp, e⟩
    have := kl2 (List.ne_nil_of_mem hL)
    omega
  · omega
theorem steps_len {b : Bool} {wd : Nat} {L : List (Nat × List Nat)} : (Mon.stepsB b wd L).length = L.length * wd := by
  cases b
  · show (L.flatMap fun p => (List.range wd).map fun c => (p, c)).length = _
    rw [flat_len (mk := fun p c => (p, c)), List.length_range]
  · show ((List.range wd).flatMap fun c => L.map fun p => (p, c)).length = _
    rw [flat_len (mk := fun c p => (p, c)), List.length_range, Nat.mul_comm]
theorem sign_of {c : Nat} (h : c < 6) : atI ("abcdefghijklmnopqrst" : Str).cps.toList ((c : Nat) : Int) = some (97 + c) := by
  have : c = 0 ∨ c = 1 ∨ c = 2 ∨ c = 3 ∨ c = 4 ∨ c = 5 := by omega
  rcases this with rfl | rfl | rfl | rfl | rfl | rfl <;> decide +kernel
theorem ws_cons {x : List Nat} {c : Nat} : ((⟨#[97 + c]⟩ : Str) ++ ws x) = ws (c :: x) := by
  show Str.mk (#[97 + c] ++ (x.map fun c => 97 + c).toArray) = ws (c :: x)
  unfold ws
  simp
section
variable {P : Program} {w : World} {K : PySem.W.Frag} {mg : Str → Option Value} {base : Heap}
def spWays (K : PySem.W.Frag) : Sp := fun vs H Q _ => ∃ tb rows wd s b t, vs = [.ref tb, .int (s : Nat), .bl b, .int (t : Nat)] ∧ RowsT K H tb rows ∧ Form rows wd ∧ s < rows.length ∧
  ∀ d l H', Same H H' → H' d = some (.dK (wT l)) → Mon.Ways b rows wd s t l → Q (.ref d) H'
theorem wT_len {l : List (Nat × List Nat)} : (wT l).length = l.length := by rw [wT, List.length_map]
theorem wT_none : ∀ {l : List (Nat × List Nat)} {t : Nat}, t ∉ Mon.nums l → valV (wT l) (ik t) = none
  | [], _, _ => rfl
  | p :: r, t, h => by
    have hy : ¬ ik p.1 = ik t := fun z => h (by rw [← ik_inj z]; exact List.mem_cons_self)
    rw [wT, List.map_cons, valV_neg (p := (ik p.1, wv p.2)) hy]
    exact wT_none fun z => h (List.mem_cons_of_mem _ z)
theorem wT_some : ∀ {l : List (Nat × List Nat)} {p : Nat × List Nat}, (Mon.nums l).Nodup → p ∈ l → valV (wT l) (ik p.1) = some (wv p.2)
  | [], _, _, h => by cases h
  | q :: r, p, nd, h => by
    obtain ⟨h1, h2⟩ := List.nodup_cons.mp nd
    rcases List.mem_cons.mp h with rfl | h
    · rw [wT, List.map_cons, valV_pos (p := (ik p.1, wv p.2)) rfl]
    · have hy : ¬ ik q.1 = ik p.1 := fun z => h1 (show q.1 ∈ Mon.nums r by rw [ik_inj z]; exact List.mem_map_of_mem (f := (·.1)) h)
      rw [wT, List.map_cons, valV_neg (p := (ik q.1, wv q.2)) hy]
      exact wT_some h2 h
theorem wT_put {l : List (Nat × List Nat)} {t : Nat} {x : List Nat} (h : t ∉ Mon.nums l) : putK (wT l) (ik t) (wv x) = wT (l ++ [(t, x)]) := by
  rw [putK_new _ (wT_none h), wT, wT, List.map_append]
  rfl
theorem scWays : FnScope NY ["table", "one", "is_front", "last"] (defScope s_least_ways) := ⟨rfl, rfl, rfl, by decide +kernel, rfl, by decide +kernel, by decide +kernel⟩
theorem ok_ways {f : Addr} {fd : FuncData} {q : Str} {dv : List V} (F : FunD K "least_ways" q (defArgs s_least_ways) (defBody s_least_ways) (defScope s_least_ways) dv [] f fd) {t : Tok} (gS : mg "SIGNS" = some (.str ("abcdefghijklmnopqrst" : Str) t)) (zl : mg "list" = none) (zr : mg "range" = none) (zn : mg "len" = none) :
    FnOk P w K mg base CX0 1 f fd ["table", "one", "is_front", "last"] (spWays K) := by
  refine F.ok scWays (fun vs H Q E h => ?_) (fun cdv A outer s H vs Q E hr h => ?_)
  · obtain ⟨tb, rows, wd, s, b, t, rfl, _⟩ := h
    rfl
  · obtain ⟨tb, rows, wd, s0, b, t0, rfl, R, FO, hs, k⟩ := h
    have hu : (A.deeper (envOfC q (defScope s_least_ways) s.heap.objs.size f cdv)).units + 1 < cLine := by have := hr.units; omega
    refine ⟨_, PSs.nox (pss_cons (ps_set (i := 4) scWays.nd rfl (.inl rfl) (pe_disp (pps_cons (pv 1) pe_str pps_nil) (by rfl) (by rfl) (fun z => by cases z) (by decide)))
      (pss_cons (ps_set (i := 5) scWays.nd rfl (.inr rfl) (pe_lst (pa_cons (pv 1) pa_nil)))
      (pss_cons (ps_set (i := 6) scWays.nd rfl (.inr rfl) (pe_listRg rfl rfl zl (prg_1 rfl zr (pe_callB call_len_seq rfl zn boot_len (pa_cons (pe_ix ix_tup (pv 0) pe_int (fun _ _ => rfl)) pa_nil)))))
      (pss_cons (ps_while PassesOwn.never (PW.pt (pw_and (pt_truth (pv 5) (by intro _; rfl)) (pw_and1 (pt_cmp (pc_dnotin hu (pv 3) (pv 4)) (by rfl)))))
        (pss_cons (ps_if (pt_val (pv 2))
          (pss_one (ps_setLc2 (i := 9) (own := [("letter", 7), ("number", 8)]) (vs1 := [8]) (g := gName 7) (g1 := gName 8) (wi1 := iList K (tVar 5)) (te := tePr) rfl scWays.nd rfl rfl (by rfl) (pi_list (pv 6)) (blkOk_by (own := [("letter", 7), ("number", 8)]) (N := NY) (sc := defScope s_least_ways) (by decide +kernel)) (by decide) (fun _ _ _ _ _ => pg_name (i := 7) scWays.nd rfl (Or.inl rfl)) (fun _ _ _ _ _ => pts_nil)
            (fun _ _ _ _ _ => by exact pi_list (pv 5)) (fun _ _ _ _ _ => pg_name (i := 8) scWays.nd rfl (Or.inl rfl)) (fun _ _ _ _ _ => pts_nil) (fun _ _ _ _ _ => by exact pe_tup (pa_cons (pv 8) (pa_cons (pv 7) pa_nil)))))
          (pss_one (ps_setLc2 (i := 9) (own := [("number", 8), ("letter", 7)]) (vs1 := [7]) (g := gName 8) (g1 := gName 7) (wi1 := iList K (tVar 6)) (te := tePr) rfl scWays.nd rfl rfl (by rfl) (pi_list (pv 5)) (blkOk_by (own := [("number", 8), ("letter", 7)]) (N := NY) (sc := defScope s_least_ways) (by decide +kernel)) (by decide) (fun _ _ _ _ _ => pg_name (i := 8) scWays.nd rfl (Or.inl rfl)) (fun _ _ _ _ _ => pts_nil)
            (fun _ _ _ _ _ => by exact pi_list (pv 6)) (fun _ _ _ _ _ => pg_name (i := 7) scWays.nd rfl (Or.inl rfl)) (fun _ _ _ _ _ => pts_nil) (fun _ _ _ _ _ => by exact pe_tup (pa_cons (pv 8) (pa_cons (pv 7) pa_nil))))))
        (pss_cons (ps_set (i := 5) scWays.nd rfl (.inr rfl) (pe_lst pa_nil))
        (pss_one (ps_for PassesOwn.never rfl (pi_list (pv 9)) (pg_tup rfl (pgs_cons (pg_name (i := 8) scWays.nd rfl (.inl rfl)) (pgs_cons (pg_name (i := 7) scWays.nd rfl (.inl rfl)) pgs_nil)))
          (pss_cons (ps_set (i := 10) scWays.nd rfl (.inl rfl) (pe_ix ix_tup (pe_ix ix_tup (pv 0) (pv 8) (fun _ _ => rfl)) (pv 7) (fun _ _ => rfl)))
          (pss_one (ps_if (pt_cmp (pc_dnotin hu (pv 10) (pv 4)) (by rfl))
            (pss_cons (ps_set (i := 11) scWays.nd rfl (.inl rfl) (pe_ix ix_str (pe_gstr rfl gS) (pv 7) (fun _ _ => rfl)))
            (pss_cons (ps_dput hu (pv 4) (pv 10) (pe_ifExp (pt_val (pv 2)) (pe_op op_add_str (pv 11) (pe_dget hu (pv 4) (pv 8) (fun _ _ => rfl))) (pe_op op_add_str (pe_dget hu (pv 4) (pv 8) (fun _ _ => rfl)) (pv 11))) rfl)
            (pss_one (ps_expr (pe_bm PySem.F.plainAttrs_list PySem.F.slot_list_append PySem.F.type_list_append mt_append (pv 5) (pa_cons (pv 10) pa_nil)))))) pss_nil))))))))
      (pss_one (ps_ret (pv 4))))))), ?_⟩
    obtain ⟨as, sr, la, srow⟩ := R.ex
    have f5 := FO.2.2.2.2
    have n2 := FO.2.1
    obtain ⟨a0, ha0⟩ := lt_get (show 0 < as.length by omega)
    obtain ⟨row0, hrow0⟩ := lt_get (show 0 < rows.length by omega)
    have w0 := (f5 row0 (List.mem_of_getElem? hrow0)).1
    refine fun d nd => ⟨_, rfl, upd_same, [(ik s0, .str ("" : Str))], rfl, (by show 1 ≤ 15; decide), ?_⟩
    rw [L2.upd_upd]
    have s1 := same_upd (o := .dK (mergeK [] [(ik s0, V.str ("" : Str))])) nd
    have hd1 : L2.upd H d (.dK (mergeK [] [(ik s0, V.str ("" : Str))])) d = some (.dK (wT [(s0, [])])) := upd_same
    generalize L2.upd H d (.dK (mergeK [] [(ik s0, V.str ("" : Str))])) = H1 at s1 hd1 ⊢
    refine ⟨_, rfl, (by show 1 ≤ sizeLine; decide), fun lv nlv => ?_⟩
    have u2 := same_upd (o := .lst [V.int (s0 : Nat)]) nlv
    have s2 := s1.trans u2
    have hd2 := u2 _ _ hd1
    have hlv2 : L2.upd H1 lv (.lst [V.int (s0 : Nat)]) lv = some (.lst ((Mon.nums [(s0, ([] : List Nat))]).map nv)) := upd_same
    generalize L2.upd H1 lv (.lst [V.int (s0 : Nat)]) = H2 at s2 hd2 hlv2 ⊢
    refine ⟨_, rfl, tb, as.map V.ref, 0, .ref a0, rfl, rfl, Lf.SqT.same s2 sr, atI_nat (j := 0) (get_map ha0), a0, row0.map nv, rfl, .inr (Lf.SqT.same s2 (srow 0 a0 row0 ha0 hrow0)), ((wd : Nat) : Int), by rw [List.length_map, w0], ?_⟩
    have w6 := FO.2.2.2.1
    refine ⟨⟨by decide, by decide, by omega, by omega, by omega⟩, fun lt nlt => ?_⟩
    rw [rgV_nv]
    have u3 := same_upd (o := .lst ((Mon.idm wd).map nv)) nlt
    have s3 := s2.trans u3
    have hd3 := u3 _ _ hd2
    have hlv3 := u3 _ _ hlv2
    have hlt3 : L2.upd H2 lt (.lst ((Mon.idm wd).map nv)) lt = some (.lst ((List.range wd).map nv)) := upd_same
    generalize L2.upd H2 lt (.lst ((Mon.idm wd).map nv)) = H3 at s3 hd3 hlv3 hlt3 ⊢
    have nd0 := nd
    have nlt0 := nil_of s2 nlt
    have nlv0 := nil_of s1 nlv
    clear u2 u3 s1 s2 hd1 hd2 hlv2 nlt nlv
    have nlvd : lv ≠ d := fun z => by rw [z, hd3] at hlv3; cases hlv3
    have nltd : lt ≠ d := fun z => by rw [z, hd3] at hlt3; cases hlt3
    refine ⟨fun i σ Hn => ∃ (v7 v8 v9 v10 v11 : Option V) (lv : Addr) (kk : Nat) (Kn L : List (Nat × List Nat)), σ = [some (.ref tb), some (.int (s0 : Nat)), some (.bl b), some (.int (t0 : Nat)), some (.ref d), some (.ref lv), some (.ref lt), v7, v8, v9, v10, v11] ∧ Same H Hn ∧ Hn d = some (.dK (wT Kn)) ∧ Hn lv = some (.lst ((Mon.nums L).map nv)) ∧ Hn lt = some (.lst ((List.range wd).map nv)) ∧
        Mon.Lev wd (Mon.actB b rows s0) kk Kn L ∧ (Mon.nums Kn).Nodup ∧ (∀ p ∈ Kn, p.1 < rows.length) ∧ kk ≤ Kn.length ∧ (L ≠ [] → kk + 1 ≤ Kn.length) ∧ i = 2 * (rows.length - Kn.length) + (if L = [] then 0 else 1),
      ⟨_, none, none, none, none, none, lv, 0, _, _, rfl, s3, hd3, hlv3, hlt3, Mon.Lev.zero Mon.actB_nil, (by simp), (fun p hp => by rw [List.mem_singleton.mp hp]; exact hs), (by simp), (fun _ => by simp), rfl⟩, ?_⟩
    rintro i σ Hn ⟨v7, v8, v9, v10, v11, lv, kk, Kn, L, rfl, sn, hdn, hlvn, hltn, LV, ndK, ltK, kl, kl2, im⟩
    refine ⟨_, rfl, !L.isEmpty, ?_, ?_⟩
    · exact .inl ⟨_, SqL.of hlvn, by cases L <;> rfl⟩
    by_cases L0 : L = []
    · subst L0
      refine ifF rfl ?_
      refine ⟨_, rfl, k d Kn Hn sn hdn ⟨fun p hp => (LV.fst p hp).1, ndK, (fun p hp => by have := (LV.fst p hp).2; have := (lev_few LV ndK ltK).1; have := lev_short LV kl kl2 hp; omega), ?_⟩⟩
      by_cases ht : t0 ∈ Mon.nums Kn
      · exact .inl ht
      · exact .inr fun v hv e => ht (e ▸ Mon.Lev.all (wd := wd) Mon.wyB Mon.actB_ext LV v.length v (Nat.le_refl _) hv)
    · have eL : (!L.isEmpty) = true := by cases L <;> simp_all
      refine ifT eL ?_
      refine ⟨_, rfl, _, rfl, d, valV (wT Kn) (ik t0), rfl, DGet.k (k := ik t0) hdn, ?_⟩
      by_cases ht : t0 ∈ Mon.nums Kn
      · obtain ⟨p, hp, ep⟩ := List.mem_map.mp ht
        have e := wT_some ndK hp
        rw [show p.1 = t0 from ep] at e
        rw [e]
        refine ⟨_, rfl, ifF rfl ?_⟩
        exact ⟨_, rfl, k d Kn Hn sn hdn ⟨fun p hp => (LV.fst p hp).1, ndK, (fun p hp => by have := (LV.fst p hp).2; have := (lev_few LV ndK ltK).1; have := lev_short LV kl kl2 hp; omega), .inl ht⟩⟩
      · rw [wT_none ht]
        refine ⟨_, rfl, ifT rfl ?_⟩
        refine ⟨fun σ' H' => ∃ i', i' < i ∧ ∃ (v7 v8 v9 v10 v11 : Option V) (lv : Addr) (kk : Nat) (Kn L : List (Nat × List Nat)), σ' = [some (.ref tb), some (.int (s0 : Nat)), some (.bl b), some (.int (t0 : Nat)), some (.ref d), some (.ref lv), some (.ref lt), v7, v8, v9, v10, v11] ∧ Same H H' ∧ H' d = some (.dK (wT Kn)) ∧ H' lv = some (.lst ((Mon.nums L).map nv)) ∧ H' lt = some (.lst ((List.range wd).map nv)) ∧
          Mon.Lev wd (Mon.actB b rows s0) kk Kn L ∧ (Mon.nums Kn).Nodup ∧ (∀ p ∈ Kn, p.1 < rows.length) ∧ kk ≤ Kn.length ∧ (L ≠ [] → kk + 1 ≤ Kn.length) ∧ i' = 2 * (rows.length - Kn.length) + (if L = [] then 0 else 1), fun σ' H' z => z, ?_⟩
        obtain ⟨Kf, Lf'⟩ := lev_few LV ndK ltK
        have Lsm : L.length ≤ 2000 := by omega
        refine tSeq_k ?_
        refine tIfS_k (R := fun σ' H' => ∃ (st : Addr) (v7 v8 : Option V), σ' = [some (.ref tb), some (.int (s0 : Nat)), some (.bl b), some (.int (t0 : Nat)), some (.ref d), some (.ref lv), some (.ref lt), v7, v8, some (.ref st), v10, v11] ∧ Same Hn H' ∧ Acc H' st (Mon.stepsB b wd L)) (fun key => ?_) (fun σ' H' ⟨st, v7, v8, eσ, sc, AC⟩ => ?_)
        · refine ⟨_, rfl, b, rfl, ?_⟩
          cases b
          · refine ifF rfl ?_
            refine ⟨_, rfl, lv, rfl, ⟨_, SqL.of hlvn⟩, fun D nD => ?_⟩
            refine lc2_lists (K := K) (a := lv) (b := lt) (xs := (Mon.nums L).map nv) (ys := (List.range wd).map nv) (gi := 8) (gj := 7) (tk := 6) (fun i j Hc => But D Hn Hc ∧ Acc Hc D (seen L (List.range wd) (fun p c => (p, c)) i j)) ⟨But.upd, by rw [seen_0]; exact ⟨[], upd_same, rfl, fun j a q h => by simp at h⟩⟩
              (fun i j Hc ⟨bc, _⟩ => ⟨SqL.of ((Same.but (L2.Same.refl _) nD bc) _ _ hlvn), SqL.of ((Same.but (L2.Same.refl _) nD bc) _ _ hltn)⟩) (fun i Hc hi ⟨bc, ac⟩ => ?_) (fun _ => rfl) (fun _ => rfl) (fun _ _ => rfl) (fun i j x y Hc hx hy ⟨bc, ac⟩ => ?_) (fun Hc ⟨bc, ac⟩ => ?_)
            · rw [List.length_map, List.length_range] at ac
              rw [List.length_map, Mon.nums, List.length_map] at hi
              have e := seen_row (XS := L) (YS := List.range wd) (mk := fun p c => (p, c)) hi
              rw [List.length_range] at e
              exact ⟨bc, e ▸ ac⟩
            · obtain ⟨n', hn', rfl⟩ := map_get hx
              obtain ⟨p, hp, rfl⟩ := map_get hn'
              obtain ⟨c, hc, rfl⟩ := map_get hy
              refine ⟨_, rfl, _, rfl, (by show 2 ≤ sizeLine; decide), fun t nt => ?_⟩
              have u := same_upd (o := .tup [nv p.1, nv c]) nt
              obtain ⟨prs, a1, a2, a3⟩ := (ac.same u).ex
              refine ⟨_, a1, ?_, bc.trans ((But.of u).trans But.upd), ?_⟩
              · have := seen_len (XS := L) (YS := List.range wd) (mk := fun p c => (p, c)) (i := i) (j := j)
                rw [List.length_range] at this
                have h2 : (L.length + 1) * wd ≤ 2001 * 6 := Nat.mul_le_mul (by omega) w6
                rw [List.length_map]
                show prs.length < 16777216
                omega
              · rw [seen_step hp hc]
                exact (ac.same u).add a1 upd_same
            · rw [List.length_map, Mon.nums, List.length_map, seen_all] at ac
              exact key _ Hc ⟨D, _, _, rfl, Same.but (L2.Same.refl _) nD bc, by simpa [Mon.stepsB] using ac⟩
          · refine ifT rfl ?_
            refine ⟨_, rfl, lt, rfl, ⟨_, SqL.of hltn⟩, fun D nD => ?_⟩
            refine lc2_lists (K := K) (a := lt) (b := lv) (xs := (List.range wd).map nv) (ys := (Mon.nums L).map nv) (gi := 7) (gj := 8) (tk := 5) (fun i j Hc => But D Hn Hc ∧ Acc Hc D (seen (List.range wd) L (fun c p => (p, c)) i j)) ⟨But.upd, by rw [seen_0]; exact ⟨[], upd_same, rfl, fun j a q h => by simp at h⟩⟩
              (fun i j Hc ⟨bc, _⟩ => ⟨SqL.of ((Same.but (L2.Same.refl _) nD bc) _ _ hltn), SqL.of ((Same.but (L2.Same.refl _) nD bc) _ _ hlvn)⟩) (fun i Hc hi ⟨bc, ac⟩ => ?_) (fun _ => rfl) (fun _ => rfl) (fun _ _ => rfl) (fun i j x y Hc hx hy ⟨bc, ac⟩ => ?_) (fun Hc ⟨bc, ac⟩ => ?_)
            · rw [List.length_map, Mon.nums, List.length_map] at ac
              rw [List.length_map] at hi
              exact ⟨bc, seen_row (XS := List.range wd) (YS := L) (mk := fun c p => (p, c)) hi ▸ ac⟩
            · obtain ⟨c, hc, rfl⟩ := map_get hx
              obtain ⟨n', hn', rfl⟩ := map_get hy
              obtain ⟨p, hp, rfl⟩ := map_get hn'
              refine ⟨_, rfl, _, rfl, (by show 2 ≤ sizeLine; decide), fun t nt => ?_⟩
              have u := same_upd (o := .tup [nv p.1, nv c]) nt
              obtain ⟨prs, a1, a2, a3⟩ := (ac.same u).ex
              refine ⟨_, a1, ?_, bc.trans ((But.of u).trans But.upd), ?_⟩
              · have := seen_len (XS := List.range wd) (YS := L) (mk := fun c p => (p, c)) (i := i) (j := j)
                rw [List.length_range] at this
                have h2 : (wd + 1) * L.length ≤ 7 * 2000 := Nat.mul_le_mul (by omega) Lsm
                rw [List.length_map]
                show prs.length < 16777216
                omega
              · rw [seen_step hc hp]
                exact (ac.same u).add a1 upd_same
            · rw [List.length_map, seen_all] at ac
              exact key _ Hc ⟨D, _, _, rfl, Same.but (L2.Same.refl _) nD bc, by simpa [Mon.stepsB] using ac⟩
        · subst eσ
          have sH := sn.trans sc
          have hdn' := sc _ _ hdn
          have hltn' := sc _ _ hltn
          refine ⟨(by show 0 ≤ sizeLine; decide), fun lw nlw => ?_⟩
          have u1 := same_upd (o := .lst []) nlw
          have nlw0 := nil_of sH nlw
          have nls0 : lw ≠ st := fun z => by
            obtain ⟨_, e, _⟩ := AC.ex
            rw [← z, nlw] at e
            cases e
          have nll0 : lw ≠ lt := fun z => by rw [← z, nlw] at hltn'; cases hltn'
          have hlw1 : L2.upd H' lw (.lst []) lw = some (.lst ((Mon.nums ([] : List (Nat × List Nat))).map nv)) := upd_same
          have sH1 := sH.trans u1
          have hd1 := u1 _ _ hdn'
          have hlt1 := u1 _ _ hltn'
          have AC1 := AC.same u1
          generalize L2.upd H' lw (.lst []) = H1 at sH1 hd1 hlt1 hlw1 AC1 ⊢
          have nlwd : lw ≠ d := fun z => by rw [z, hd1] at hlw1; cases hlw1
          clear u1 nlw hdn' hltn' sH AC sc hlvn hdn hltn sn
          obtain ⟨prs, hst, lprs, eprs⟩ := id AC1.ex
          have nstd : st ≠ d := fun z => by rw [z, hd1] at hst; cases hst
          have MID := Mon.midB (b := b) (rows := rows) LV
          refine ⟨_, rfl, st, rfl, ⟨_, SqL.of hst⟩, for_list (K := K) (a := st) (xs := prs.map V.ref) (fun i σ Hc => ∃ (v7 v8 v10 v11 : Option V) (N : List (Nat × List Nat)), σ = [some (.ref tb), some (.int (s0 : Nat)), some (.bl b), some (.int (t0 : Nat)), some (.ref d), some (.ref lw), some (.ref lt), v7, v8, some (.ref st), v10, v11] ∧ Same H Hc ∧ Hc d = some (.dK (wT (Kn ++ N))) ∧ Hc lw = some (.lst ((Mon.nums N).map nv)) ∧ Hc lt = some (.lst ((List.range wd).map nv)) ∧ Hc st = some (.lst (prs.map V.ref)) ∧ (∀ (j : Nat) a q, prs[j]? = some a → (Mon.stepsB b wd L)[j]? = some q → Hc a = some (.tup [nv q.1.1, nv q.2])) ∧ lw ≠ st ∧ lw ≠ lt ∧
              Mon.New wd (Mon.actB b rows s0) kk Kn ((Mon.stepsB b wd L).map (Mon.candB b rows)) i N ∧ (Mon.nums (Kn ++ N)).Nodup ∧ ∀ p ∈ Kn ++ N, p.1 < rows.length)
            ⟨v7, v8, v10, v11, [], rfl, sH1, by rw [List.append_nil]; exact hd1, hlw1, hlt1, hst, eprs, nls0, nll0, Mon.New.zero, by rw [List.append_nil]; exact ndK, by rw [List.append_nil]; exact ltK⟩ (fun i σ Hc _ ⟨_, _, _, _, _, _, _, _, _, _, h, _⟩ => SqL.of h) (fun i x σ Hc hx ⟨v7, v8, v10, v11, N, eσ, sc, hdc, hlwc, hltc, hstc, ec, nls, nll, NW, ndN, ltN⟩ => ?_) (fun σ Hc ⟨v7, v8, v10, v11, N, eσ, sc, hdc, hlwc, hltc, hstc, ec, nls, nll, NW, ndN, ltN⟩ => ?_)⟩
          · subst eσ
            obtain ⟨a, ha, rfl⟩ := map_get hx
            obtain ⟨q, hq⟩ := lt_get (show i < (Mon.stepsB b wd L).length by have := get_lt ha; omega)
            obtain ⟨qL, qw⟩ := Mon.mem_steps.mp (List.mem_of_getElem? hq)
            have qK := ((LV.lev q.1).mp qL)
            have q1 := ltK q.1 qK.1
            obtain ⟨ar, har⟩ := lt_get (show q.1.1 < as.length by omega)
            obtain ⟨row, hrow⟩ := lt_get q1
            obtain ⟨l1, l2⟩ := f5 row (List.mem_of_getElem? hrow)
            obtain ⟨tt, htt⟩ := lt_get (show q.2 < row.length by omega)
            have est : Mon.stp rows q.1.1 q.2 = tt := by
              unfold Mon.stp
              rw [Mon.getD_of hrow, Mon.getD_of htt]
            have hcq : ((Mon.stepsB b wd L).map (Mon.candB b rows))[i]? = some (tt, Mon.extB b q.2 q.1.2) := by
              rw [List.getElem?_map, hq, ← est]
              rfl
            refine ⟨a, _, rfl, SqT.of (ec i a q ha hq), rfl, _, _, rfl, _, _, rfl, rfl, ?_⟩
            refine ⟨_, rfl, _, rfl, tb, as.map V.ref, _, .ref ar, rfl, rfl, Lf.SqT.same sc sr, atI_nat (get_map har), _, rfl, ar, row.map nv, _, nv tt, rfl, rfl, Lf.SqT.same sc (srow _ ar row har hrow), atI_nat (get_map htt), ?_⟩
            refine ⟨_, rfl, _, rfl, d, valV (wT (Kn ++ N)) (ik tt), rfl, DGet.k (k := ik tt) hdc, ?_⟩
            by_cases hin : tt ∈ Mon.nums (Kn ++ N)
            · obtain ⟨p, hp, ep⟩ := List.mem_map.mp hin
              have e := wT_some ndN hp
              rw [show p.1 = tt from ep] at e
              rw [e]
              refine ⟨_, rfl, ifF rfl ?_⟩
              exact ⟨_, _, _, _, N, rfl, sc, hdc, hlwc, hltc, hstc, ec, nls, nll, NW.old hcq hin, ndN, ltN⟩
            · rw [wT_none hin]
              refine ⟨_, rfl, ifT rfl ?_⟩
              have NW' := Mon.Mid.new MID NW hcq hin
              have c6 : q.2 < 6 := by omega
              have xl : q.1.2.length ≤ 2000 := by have := qK.2; omega
              have hget := wT_some ndN (List.mem_append_left N qK.1)
              have Nl : N.length ≤ 12000 := by
                have := NW.sub.length_le
                rw [List.length_take, List.length_map] at this
                rw [steps_len] at this
                have h2 : L.length * wd ≤ 2000 * 6 := Nat.mul_le_mul Lsm w6
                omega
              have Kl : (Kn ++ N).length ≤ 14000 := by rw [List.length_append]; omega
              refine ⟨_, rfl, ("abcdefghijklmnopqrst" : Str), _, 97 + q.2, rfl, rfl, by decide, sign_of c6, ?_⟩
              have hd2 : ∀ x', L2.upd Hc d (.dK (wT ((Kn ++ N) ++ [(tt, x')]))) d = some (.dK (wT ((Kn ++ N) ++ [(tt, x')]))) := fun _ => upd_same
              have tail : ∀ x', x' = Mon.extB b q.2 q.1.2 → ∃ N', Hc lw = some (.lst ((Mon.nums N).map nv)) ∧ ((Mon.nums N).map nv).length < 16777216 ∧ (Kn ++ N) ++ [(tt, x')] = Kn ++ N' ∧ (Mon.nums N).map nv ++ [nv tt] = (Mon.nums N').map nv ∧
                  Mon.New wd (Mon.actB b rows s0) kk Kn ((Mon.stepsB b wd L).map (Mon.candB b rows)) (i + 1) N' ∧ (Mon.nums (Kn ++ N')).Nodup ∧ ∀ p ∈ Kn ++ N', p.1 < rows.length := fun x' ex => by
                subst ex
                refine ⟨N ++ [(tt, Mon.extB b q.2 q.1.2)], hlwc, ?_, by rw [List.append_assoc], by simp, NW', ?_, fun p hp => ?_⟩
                · rw [List.length_map, Mon.nums, List.length_map]
                  show N.length < 16777216
                  omega
                · rw [← List.append_assoc, Mon.nums, List.map_append, List.nodup_append]
                  exact ⟨ndN, by simp, fun x hx y hy e => hin (by rw [List.mem_singleton.mp hy] at e; rw [show x = tt from e] at hx; exact hx)⟩
                · rw [← List.append_assoc] at hp
                  rcases List.mem_append.mp hp with hp | hp
                  · exact ltN p hp
                  · rw [List.mem_singleton.mp hp]
                    exact l2 tt (List.mem_of_getElem? htt)
              have zl : (wT (Kn ++ N)).length < sizeLine := by rw [wT_len]; show _ < 16777216; omega
              refine ⟨_, rfl, b, rfl, ?_⟩
              cases b
              case' false =>
                refine ifF rfl ?_
                refine ⟨_, rfl, _, rfl, d, wv q.1.2, rfl, (by have z := DGet.k (k := ik q.1.1) hdc; rw [hget] at z; exact z), _, rfl, ws q.1.2, ⟨#[97 + q.2]⟩, rfl, rfl, (by rw [ws_len]; show q.1.2.length + 1 ≤ 16777216; omega), ?_⟩
                rw [ws_app]
                obtain ⟨N', t1, t2, t3, t4, t5, t6, t7⟩ := tail (q.1.2 ++ [q.2]) rfl
                generalize q.1.2 ++ [q.2] = x' at t3 ⊢
              case' true =>
                refine ifT rfl ?_
                refine ⟨_, rfl, _, rfl, _, rfl, d, wv q.1.2, rfl, (by have z := DGet.k (k := ik q.1.1) hdc; rw [hget] at z; exact z), ⟨#[97 + q.2]⟩, ws q.1.2, rfl, rfl, (by rw [ws_len]; show 1 + q.1.2.length ≤ 16777216; omega), ?_⟩
                rw [ws_cons]
                obtain ⟨N', t1, t2, t3, t4, t5, t6, t7⟩ := tail (q.2 :: q.1.2) rfl
                generalize q.2 :: q.1.2 = x' at t3 ⊢
              all_goals
                refine ⟨_, rfl, _, rfl, d, _, rfl, DPut.k (k := ik tt) hdc zl, ?_⟩
                rw [wT_put hin, t3]
                have sc2 : Same H (L2.upd Hc d (.dK (wT (Kn ++ N')))) := fun b o e => by
                  rw [upd_ne (ne_of_none e nd0)]
                  exact sc b o e
                have hlw2 : L2.upd Hc d (.dK (wT (Kn ++ N'))) lw = some (.lst ((Mon.nums N).map nv)) := by rw [upd_ne nlwd]; exact t1
                refine ⟨_, rfl, .inl ⟨rfl, _, SqL.of hlw2⟩, _, rfl, lw, _, _, rfl, rfl, hlw2, t2, ?_⟩
                rw [t4]
                refine ⟨_, _, _, _, N', rfl, fun b o e => ?_, ?_, upd_same, ?_, ?_, fun j a' r h1 h2 => ?_, nls, nll, t5, t6, t7⟩
                · rw [upd_ne (ne_of_none e nlw0)]
                  exact sc2 b o e
                · rw [upd_ne nlwd.symm]
                  exact upd_same
                · rw [upd_ne nll.symm, upd_ne nltd]
                  exact hltc
                · rw [upd_ne nls.symm, upd_ne nstd]
                  exact hstc
                · have e0 := ec j a' r h1 h2
                  rw [upd_ne (fun z => by rw [z, hlwc] at e0; cases e0), upd_ne (fun z => by rw [z, hdc] at e0; cases e0)]
                  exact e0
          · subst eσ
            have e1 : prs.length = ((Mon.stepsB b wd L).map (Mon.candB b rows)).length := by rw [List.length_map]; exact lprs
            rw [List.length_map, e1] at NW
            have LV' := Mon.Mid.done MID NW
            obtain ⟨Kf', Lf''⟩ := lev_few LV' ndN ltN
            have kl3 := kl2 L0
            rw [List.length_append] at Kf'
            refine ⟨2 * (rows.length - (Kn ++ N).length) + (if N = [] then 0 else 1), ?_, v7, v8, some (.ref st), v10, v11, lw, kk + 1, Kn ++ N, N, rfl, sc, hdc, hlwc, hltc, LV', ndN, ltN, by rw [List.length_append]; omega, fun hN => ?_, rfl⟩
            · rw [im, if_neg L0, List.length_append]
              by_cases hN : N = []
              · rw [if_pos hN]
                subst hN
                rw [List.length_nil]
                omega
              · rw [if_neg hN]
                have := List.length_pos_iff.mpr hN
                omega
            · have := List.length_pos_iff.mpr hN
              rw [List.length_append]
              omega
end
end K16

set_option Elab.async false
set_option linter.all false
set_option maxRecDepth 100000
set_option maxHeartbeats 8000000
namespace K16
open PySem PySem.Spec PyProof.Rows L2 Lf
/-- the first word, or None -/
def LW (b : Bool) (rows : List (List Nat)) (wd s t : Nat) (v : V) : Prop := (v = .non ∧ ∀ x : List Nat, (∀ d ∈ x, d < wd) → Mon.actB b rows s x ≠ t) ∨ ∃ x, v = wv x ∧ (x.length ≤ 2000 ∧ x.length < rows.length) ∧ Mon.First wd (Mon.actB b rows s) t x
theorem lw_of {b : Bool} {rows : List (List Nat)} {wd s t : Nat} {l : List (Nat × List Nat)} (h : Mon.Ways b rows wd s t l) : LW b rows wd s t ((valV (wT l) (ik t)).getD .non) := by
  by_cases hi : t ∈ Mon.nums l
  · obtain ⟨p, hp, ep⟩ := List.mem_map.mp hi
    have e := wT_some h.nd hp
    have F := h.fst p hp
    rw [show p.1 = t from ep] at e F
    rw [e]
    exact .inr ⟨p.2, rfl, h.short p hp, F⟩
  · rw [wT_none hi]
    exact .inl ⟨rfl, h.all.resolve_left hi⟩
def spLR (b : Bool) (K : PySem.W.Frag) : Sp := fun vs H Q _ => ∃ p rows m wd s t, vs = [.ref p, .int (s : Nat), .int (t : Nat)] ∧ Mo K H p rows m ∧ Accept rows wd m ∧ s < rows.length ∧ t < rows.length ∧ ∀ v H', Same H H' → LW b (if b = true then Mon.leftTab rows m else rows) wd s t v → Q v H'
theorem form_left {rows : List (List Nat)} {wd : Nat} {m : List (Nat × Nat)} (A : Accept rows wd m) : Form (Mon.leftTab rows m) wd := by
  have l : (Mon.leftTab rows m).length = rows.length := by rw [Mon.left_len, A.len]
  obtain ⟨f1, f2, f3, f4, f5⟩ := A.form
  refine ⟨by omega, by omega, f3, f4, fun row hr => ?_⟩
  obtain ⟨i, hi⟩ := List.getElem?_of_mem hr
  rw [l]
  exact A.left m.length i row (by rw [List.take_length]; exact hi)
section
variable {P : Program} {w : World} {K : PySem.W.Frag} {mg : Str → Option Value} {base : Heap}
theorem scLR : FnScope ["self", "one", "other"] ["self", "one", "other"] (defScope s_Monoid_least_right) := ⟨rfl, rfl, rfl, by decide +kernel, rfl, by decide +kernel, by decide +kernel⟩
theorem scLL : FnScope ["self", "one", "other"] ["self", "one", "other"] (defScope s_Monoid_least_left) := ⟨rfl, rfl, rfl, by decide +kernel, rfl, by decide +kernel, by decide +kernel⟩
theorem ok_lr {f : Addr} {fd : FuncData} {q : Str} (F : FunD K "least_right" q (defArgs s_Monoid_least_right) (defBody s_Monoid_least_right) (defScope s_Monoid_least_right) [] [] f fd) (T : Txt P w K mg base)
    (DN : DefM P w K mg base CX0 3 "_check_number" ["self", "number"] (spCkN K)) (DW : Def P w K mg base CX0 1 "least_ways" ["table", "one", "is_front", "last"] (spWays K)) :
    FnOk P w K mg base CX0 4 f fd ["self", "one", "other"] (spLR false K) := by
  have cl : L2.Cls K (He.ga K "Monoid") := He.cls_ok (T.d.fact 49 (f := .cls "Monoid") rfl)
  have n1 : NoAttr K (He.ga K "Monoid") "right" := He.noat_ok (T.d.fact 65 (f := .noat "Monoid" "right") rfl)
  obtain ⟨fn', fdn, mn, Fn, bn⟩ := DN.ex
  refine F.ok scLR (fun vs H Q E h => ?_) (fun cdv A outer s H vs Q E hr h => ?_)
  · obtain ⟨p, rows, m, wd, i, j, rfl, _⟩ := h
    rfl
  · obtain ⟨p, rows, m, wd, i, j, rfl, M, AC, hi, hj, k⟩ := h
    have r1 : Room 1 _ := hr.mono (by decide)
    have hu : (A.deeper (envOfC q (defScope s_Monoid_least_right) s.heap.objs.size f cdv)).units + 1 < cLine := by have := hr.units; omega
    obtain ⟨dx, t, u, v, hp, R, MA, LA⟩ := id M.ex
    refine ⟨_, PSs.nox (pss_cons (ps_expr (pe_meth (pv 0) cl mn Fn hr bn .nil pass0 (pa_cons (pv 1) pa_nil)))
      (pss_cons (ps_expr (pe_meth (pv 0) cl mn Fn hr bn .nil pass0 (pa_cons (pv 2) pa_nil)))
      (pss_one (ps_ret (pe_dget1 hu (pe_def DW r1 pass0 rfl (pa_cons (pe_fld (pv 0) rfl) (pa_cons (pv 1) (pa_cons pe_bl (pa_cons (pv 2) pa_nil))))) (pv 2) ⟨by rfl, by rfl, by rfl, by rfl⟩))))), ?_⟩
    refine ⟨_, rfl, p, dx, _, rfl, hp, rfl, _, rfl, p, rows, m, i, rfl, M, hi, ?_⟩
    refine ⟨_, rfl, p, dx, _, rfl, hp, rfl, _, rfl, p, rows, m, j, rfl, M, hj, ?_⟩
    refine ⟨_, rfl, p, _, dx, _, _, rfl, hp, cl, n1, rfl, _, rfl, _, rfl, t, rows, wd, i, false, j, rfl, R, AC.form, hi, fun d l H1 s1 hd W => ?_⟩
    exact ⟨d, rfl, .inl ⟨_, .inl hd⟩, _, rfl, _, DGet.k (k := ik j) hd, k _ H1 s1 (lw_of W)⟩
theorem ok_ll {f : Addr} {fd : FuncData} {q : Str} (F : FunD K "least_left" q (defArgs s_Monoid_least_left) (defBody s_Monoid_least_left) (defScope s_Monoid_least_left) [] [] f fd) (T : Txt P w K mg base)
    (DN : DefM P w K mg base CX0 3 "_check_number" ["self", "number"] (spCkN K)) (DW : Def P w K mg base CX0 1 "least_ways" ["table", "one", "is_front", "last"] (spWays K)) :
    FnOk P w K mg base CX0 4 f fd ["self", "one", "other"] (spLR true K) := by
  have cl : L2.Cls K (He.ga K "Monoid") := He.cls_ok (T.d.fact 49 (f := .cls "Monoid") rfl)
  have n3 : NoAttr K (He.ga K "Monoid") "_left" := He.noat_ok (T.d.fact 67 (f := .noat "Monoid" "_left") rfl)
  obtain ⟨fn', fdn, mn, Fn, bn⟩ := DN.ex
  refine F.ok scLL (fun vs H Q E h => ?_) (fun cdv A outer s H vs Q E hr h => ?_)
  · obtain ⟨p, rows, m, wd, i, j, rfl, _⟩ := h
    rfl
  · obtain ⟨p, rows, m, wd, i, j, rfl, M, AC, hi, hj, k⟩ := h
    have r1 : Room 1 _ := hr.mono (by decide)
    have hu : (A.deeper (envOfC q (defScope s_Monoid_least_left) s.heap.objs.size f cdv)).units + 1 < cLine := by have := hr.units; omega
    obtain ⟨dx, t, u, v, hp, R, MA, LA⟩ := id M.ex
    have ll : (Mon.leftTab rows m).length = rows.length := by rw [Mon.left_len, AC.len]
    refine ⟨_, PSs.nox (pss_cons (ps_expr (pe_meth (pv 0) cl mn Fn hr bn .nil pass0 (pa_cons (pv 1) pa_nil)))
      (pss_cons (ps_expr (pe_meth (pv 0) cl mn Fn hr bn .nil pass0 (pa_cons (pv 2) pa_nil)))
      (pss_one (ps_ret (pe_dget1 hu (pe_def DW r1 pass0 rfl (pa_cons (pe_fld (pv 0) rfl) (pa_cons (pv 1) (pa_cons pe_bl (pa_cons (pv 2) pa_nil))))) (pv 2) ⟨by rfl, by rfl, by rfl, by rfl⟩))))), ?_⟩
    refine ⟨_, rfl, p, dx, _, rfl, hp, rfl, _, rfl, p, rows, m, i, rfl, M, hi, ?_⟩
    refine ⟨_, rfl, p, dx, _, rfl, hp, rfl, _, rfl, p, rows, m, j, rfl, M, hj, ?_⟩
    refine ⟨_, rfl, p, _, dx, _, _, rfl, hp, cl, n3, rfl, _, rfl, _, rfl, v, Mon.leftTab rows m, wd, i, true, j, rfl, LA, form_left AC, by omega, fun d l H1 s1 hd W => ?_⟩
    exact ⟨d, rfl, .inl ⟨_, .inl hd⟩, _, rfl, _, DGet.k (k := ik j) hd, k _ H1 s1 (lw_of W)⟩
end
end K16

set_option Elab.async false
set_option linter.all false
set_option maxRecDepth 100000
set_option maxHeartbeats 4000000
/-! Words between two elements, and between the same two in the opposite. -/
namespace Ass
open PySem PySem.Spec PyProof.Rows L2 Lf
section
variable {rows : List (List Nat)} {wd : Nat} {m m' : List (Nat × Nat)}
theorem Md.walk_mt (M : Md rows wd m) {x : Nat} (hx : x < rows.length) : ∀ (k : Nat) {u : List Nat}, u.length = k → (∀ c ∈ u, c < wd) → Mon.walk rows x u = mt rows m x (Mon.walk rows 0 u)
  | 0, u, h, _ => by
    have : u = [] := List.length_eq_zero_iff.mp h
    subst this
    exact (M.one_r x).symm
  | k + 1, u, h, hu => by
    obtain ⟨c, hc0⟩ := lt_get (show k < u.length by omega)
    obtain ⟨v, rfl⟩ : ∃ v, u = v ++ [c] := ⟨u.take k, by
      have e : u.take (k + 1) = u.take k ++ [c] := take_snoc hc0
      rw [← e, List.take_of_length_le (by omega)]⟩
    clear hc0
    have hv : ∀ d ∈ v, d < wd := fun d hd => hu d (List.mem_append_left _ hd)
    have hc := hu c (List.mem_append_right _ (List.mem_singleton.mpr rfl))
    have ih := M.walk_mt hx k (u := v) (by simpa using h) hv
    have w0 := walk_lt M.F M.p0 hv
    have wx := walk_lt M.F hx hv
    have g0 := M.ent M.p0 hc
    have e : ∀ s, Mon.walk rows s (v ++ [c]) = (rows.getD (Mon.walk rows s v) []).getD c 0 := fun s => by rw [Mon.walk_app]; rfl
    rw [e, e, M.gen wx hc, M.gen w0 hc, ih, M.as_ hx w0 g0]
theorem act_true {L : List (List Nat)} {s : Nat} {w : List Nat} : Mon.actB true L s w = Mon.walk L s w.reverse := by
  show w.foldr (fun c r => Mon.stp L r c) s = _
  unfold Mon.walk
  rw [List.foldl_reverse]
  rfl
theorem act_false {L : List (List Nat)} {s : Nat} {w : List Nat} : Mon.actB false L s w = Mon.walk L s w := rfl
/-- words behind in the table are words behind in the opposite's left table -/
theorem Md.walkS (M : Md rows wd m) (hm' : Mon.madeTab 0 (Ass.opp rows m) [] = some m') : ∀ {u : List Nat} {x : Nat}, x < rows.length → (∀ c ∈ u, c < wd) → Mon.walk (Mon.leftTab (Ass.opp rows m) m') (tn rows m x) u = tn rows m (Mon.walk rows x u)
  | [], x, _, _ => rfl
  | c :: u, x, hx, hu => by
    have hc := hu c List.mem_cons_self
    have hu' : ∀ d ∈ u, d < wd := fun d hd => hu d (List.mem_cons_of_mem _ hd)
    obtain ⟨row, hr⟩ := lt_get hx
    obtain ⟨t, ht⟩ := lt_get (show c < row.length by rw [(M.F.2.2.2.2 row (List.mem_of_getElem? hr)).1]; exact hc)
    have e : ((Mon.leftTab (Ass.opp rows m) m').getD (tn rows m x) []).getD c 0 = tn rows m t := by
      rw [(M.scat hm').row x hx, Mon.getD_of hr]
      have : (row.map (tn rows m))[c]? = some (tn rows m t) := by rw [List.getElem?_map, ht]; rfl
      rw [Mon.getD_of this]
    have e2 : (rows.getD x []).getD c 0 = t := by rw [Mon.getD_of hr, Mon.getD_of ht]
    show Mon.walk _ (((Mon.leftTab (Ass.opp rows m) m').getD (tn rows m x) []).getD c 0) u = tn rows m (Mon.walk rows ((rows.getD x []).getD c 0) u)
    rw [e, e2]
    exact Md.walkS M hm' ((M.F.2.2.2.2 row (List.mem_of_getElem? hr)).2 t (List.mem_of_getElem? ht)) hu'
/-- behind, and in front in the opposite -/
theorem Md.act1 (M : Md rows wd m) (hm' : Mon.madeTab 0 (Ass.opp rows m) [] = some m') {x y : Nat} (hx : x < rows.length) (hy : y < rows.length) {w : List Nat} (hw : ∀ c ∈ w, c < wd) : Mon.actB true (Mon.leftTab (Ass.opp rows m) m') (tn rows m x) w = tn rows m y ↔ Mon.actB false rows x w.reverse = y := by
  have hr : ∀ c ∈ w.reverse, c < wd := fun c hc => hw c (List.mem_reverse.mp hc)
  rw [act_true, act_false, M.walkS hm' hx hr]
  exact ⟨fun e => M.tn_inj (walk_lt M.F hx hr) hy e, fun e => by rw [e]⟩
/-- in front, and behind in the opposite -/
theorem Md.act2 (M : Md rows wd m) {x y : Nat} (hx : x < rows.length) (hy : y < rows.length) {w : List Nat} (hw : ∀ c ∈ w, c < wd) : Mon.actB false (Ass.opp rows m) (tn rows m x) w = tn rows m y ↔ Mon.actB true (Mon.leftTab rows m) x w.reverse = y := by
  rw [act_true, act_false, List.reverse_reverse, M.walkR hx hw]
  have hl : Mon.walk (Mon.leftTab rows m) x w < rows.length := by
    rw [M.walkL hx hw]
    exact M.lt (walk_lt M.F M.p0 fun c hc => hw c (List.mem_reverse.mp hc)) hx
  exact ⟨fun e => M.tn_inj hl hy e, fun e => by rw [e]⟩
end
/-- least words of sets of words that are the same but for their direction -/
theorem first_len {wd : Nat} {act act' : List Nat → Nat} {t t' : Nat} (h : ∀ w : List Nat, (∀ c ∈ w, c < wd) → (act' w = t' ↔ act w.reverse = t)) {x x' : List Nat} (a : Mon.First wd act t x) (b : Mon.First wd act' t' x') : x.length = x'.length := by
  have r1 : ∀ c ∈ x.reverse, c < wd := fun c hc => a.ok c (List.mem_reverse.mp hc)
  have r2 : ∀ c ∈ x'.reverse, c < wd := fun c hc => b.ok c (List.mem_reverse.mp hc)
  have p := a.least x'.reverse r2 ((h x' b.ok).mp b.at')
  have q := b.least x.reverse r1 ((h x.reverse r1).mpr (by rw [List.reverse_reverse]; exact a.at'))
  rw [List.length_reverse] at p q
  omega
/-- least words behind are short where maps have at most four points -/
theorem path_short {n : Nat} {gens found rows : List (List Nat)} (T : Mon.Tab n gens found rows) (n4 : n ≤ 4) (n1 : 1 ≤ n) {x y : Nat} (hx : x < found.length) {u : List Nat} (ok : ∀ c ∈ u, c < gens.length) (at' : Mon.walk rows x u = y) (least : ∀ v : List Nat, (∀ c ∈ v, c < gens.length) → Mon.walk rows x v = y → u.length ≤ v.length) : u.length ≤ 100 := by
  have tk : ∀ k, ∀ c ∈ u.take k, c < gens.length := fun k c hc => ok c (List.mem_of_mem_take hc)
  obtain ⟨z, hz⟩ := lt_get hx
  have fw : ∀ k, found[Mon.walk rows x (u.take k)]? = some (Mon.compW gens z (u.take k)) := fun k => T.walk hz (tk k)
  have unl : ∀ i j, i < j → j ≤ u.length → Mon.walk rows x (u.take i) ≠ Mon.walk rows x (u.take j) := fun i j ij hj e => by
    have := least (u.take i ++ u.drop j) (fun c hc => by
      rcases List.mem_append.mp hc with h | h
      · exact tk i c h
      · exact ok c (List.mem_of_mem_drop h)) (by rw [Mon.walk_app, e, ← Mon.walk_app, List.take_append_drop]; exact at')
    rw [List.length_append, List.length_take, List.length_drop] at this
    omega
  have nd : ((List.range (u.length + 1)).map fun k => Mon.compW gens z (u.take k)).Nodup := by
    rw [List.Nodup, List.pairwise_map]
    refine (List.pairwise_lt_range (n := u.length + 1)).imp_of_mem fun {i j} hi hj ij e => unl i j ij (by have := List.mem_range.mp hj; omega) ?_
    have a := fw i
    rw [e] at a
    exact Mon.nodup_at T.nd a (fw j)
  have kl : ∀ (v : List Nat) (y : List Nat), Mon.kle y (Mon.compW gens y v) := by
    intro v
    induction v with
    | nil => intro y; exact Mon.kle_refl _
    | cons c v ih => intro y; exact Mon.kle_trans (Mon.kle_comp y _) (ih _)
  have capp : ∀ (v w y : List Nat), Mon.compW gens y (v ++ w) = Mon.compW gens (Mon.compW gens y v) w := by
    intro v w y
    unfold Mon.compW
    rw [List.foldl_append]
  by_cases h4 : n = 4
  · subst h4
    have := Mon.chain_few nd (fun w hw => by
      obtain ⟨k, _, rfl⟩ := List.mem_map.mp hw
      exact T.val _ (List.mem_of_getElem? (fw k))) (by
      rw [List.pairwise_map]
      refine (List.pairwise_lt_range (n := u.length + 1)).imp fun {i j} ij => ?_
      have : u.take j = u.take i ++ (u.take j).drop i := by
        rw [show u.take i = (u.take j).take i by rw [List.take_take, Nat.min_eq_left (Nat.le_of_lt ij)], List.take_append_drop]
      rw [this, capp]
      exact kl _ _)
    rw [List.length_map, List.length_range] at this
    omega
  · have few := Mon.maps_few nd fun w hw => by
      obtain ⟨k, _, rfl⟩ := List.mem_map.mp hw
      exact T.val _ (List.mem_of_getElem? (fw k))
    rw [List.length_map, List.length_range] at few
    have : n = 1 ∨ n = 2 ∨ n = 3 := by omega
    rcases this with rfl | rfl | rfl
    · have : (1 : Nat) ^ 1 = 1 := rfl
      omega
    · have : (2 : Nat) ^ 2 = 4 := rfl
      omega
    · have : (3 : Nat) ^ 3 = 27 := rfl
      omega
end Ass

set_option Elab.async false
set_option linter.all false
set_option maxRecDepth 100000
set_option maxHeartbeats 4000000
/-! text[::-1] -/
namespace Lf
open PySem PySem.Spec PyProof.Rows L2
def revS (z : Str) : Str := ⟨z.cps.toList.reverse.toArray⟩
theorem revS_len (z : Str) : (revS z).length = z.length := by
  show (z.cps.toList.reverse.toArray).size = z.cps.size
  simp
theorem all_of {α : Type} (xs : Array α) : (List.range xs.size).filterMap (xs[·]?) = xs.toList := by
  refine List.ext_getElem? fun i => ?_
  have e : ∀ n, n ≤ xs.size → (List.range n).filterMap (xs[·]?) = xs.toList.take n := by
    intro n
    induction n with
    | zero => intro _; rfl
    | succ n ih =>
      intro h
      rw [List.range_succ, List.filterMap_append, ih (by omega)]
      have hn : xs[n]? = some xs[n] := Array.getElem?_eq_getElem (by omega)
      have ht : xs.toList[n]? = some xs[n] := by rw [← hn]; simp
      have q : xs.toList.take (n + 1) = xs.toList.take n ++ [xs[n]] := take_snoc ht
      rw [q]
      simp [hn]
  rw [e _ (Nat.le_refl _), List.take_of_length_le (by simp)]
def tRevS (te : TE) : TE := fun σ H Q => te σ H fun x H1 => ∃ z, x = .str z ∧ z.length ≤ sizeLine ∧ Q (.str (revS z)) H1
section
variable {X : Cx}
theorem pe_revS {e : Expr} {te : TE} {k : Nat} {p1 p2 p3 pos : Pos} (he : PE X e te) : PE X (.Subscript e (.Slice none none (some (.UnaryOp .USub (.Constant (.int 1) k p1) p2)) p3) pos) (tRevS te) := by
  refine ⟨fun pins s σ H Q I h => ?_⟩
  refine Subscript_ (thn (he.run pins s σ H _ I h) fun v s1 ⟨x, H1, I1, r1, q1⟩ => ?_)
  obtain ⟨z, ex, hz, q⟩ := q1
  subst ex
  obtain ⟨t, rfl⟩ := r1
  have hst : PO X (some (.UnaryOp .USub (.Constant (.int 1) k p1) p2)) (tPart (tUn (rU fun i => .int (-i)) (tC (.int 1)))) := po_some (pe_un un_neg pe_int)
  refine wpAny_Slice (thn (po_none.run pins s1 σ H1 (fun o H2 => o = none ∧ H2 = H1) I1 ⟨rfl, rfl⟩) fun vl s2 ⟨l, H2, I2, pl, el, e2⟩ => ?_)
  subst el e2
  refine thn (po_none.run pins s2 σ H2 (fun o H3 => o = none ∧ H3 = H2) I2 ⟨rfl, rfl⟩) fun vu s3 ⟨u, H3, I3, pu, eu, e3⟩ => ?_
  subst eu e3
  refine thn (hst.run pins s3 σ H3 (fun o H4 => o = some (-1) ∧ H4 = H3) I3 ⟨1, rfl, -1, rfl, rfl, rfl⟩) fun vs s4 ⟨o, H4, I4, ps, eo, e4⟩ => ?_
  subst eo e4
  have I5 : Inv X pins σ H4 { s4 with heap := s4.heap.push { cls := .type "slice", data := .fields #[vl, vu, vs] } } := I4.kept (t' := s4.toks) fun b ob q => Heap.get?_push_of_some _ q
  obtain ⟨l', rfl, hl⟩ := IsPart.raw pl
  obtain ⟨u', rfl, hu⟩ := IsPart.raw pu
  obtain ⟨st, rfl, hs⟩ := IsPart.raw ps
  show wpAny (model X.prog X.w) X.A (subscriptTail e (.Slice none none (some (.UnaryOp .USub (.Constant (.int 1) k p1) p2)) p3) (.str z t) (.ref s4.heap.objs.size)) (EP X pins σ Q) X.xe { s4 with heap := s4.heap.push { cls := .type "slice", data := .fields #[partValue l', partValue u', partValue st] } }
  refine tail_any (ops := [.str z t, .ref s4.heap.objs.size]) (typeIs_str _ _ _) (F.slot_str_getitem.lookup) ?_ (by with_unfolding_all rfl)
  refine wpAny_getItem_str_slice (l := l') (u := u') (st := st) (Heap.IsSliceOf.new _ (partValue l') (partValue u') (partValue st)) (by rw [hs]; rfl) ?_
  have e0 : ((st.map (·.1)).getD 1 : Int) = -1 := by rw [hs]; rfl
  have ek : (slicePicked z l' u' st) = (List.range z.length).reverse := by
    unfold slicePicked
    rw [e0, hl, hu]
    show sliceRange ((z.length : Int) - 1) (-1) (-1) = _
    rw [PySem.W.krv_sliceRange, PySem.W.krv_range]
  have em : (((List.range z.length).reverse).filterMap (z.cps[·]?)).toArray = (revS z).cps := by
    show _ = z.cps.toList.reverse.toArray
    rw [List.filterMap_reverse]
    congr 2
    exact all_of z.cps
  unfold sliceMade
  rw [e0, ek, if_neg (by rw [show ((-1 : Int) == 1) = false from rfl, Bool.false_and]; exact Bool.false_ne_true), em]
  exact ⟨by rw [show Str.mk (revS z).cps = revS z from rfl, revS_len]; exact hz, .str _, H4, I5.tok _, ⟨_, rfl⟩, q⟩
end
end Lf

set_option Elab.async false
set_option linter.all false
set_option maxRecDepth 100000
set_option maxHeartbeats 8000000
namespace K16
open PySem PySem.Spec PyProof.Rows L2 Lf
theorem sqT_solid {K : PySem.W.Frag} {H H' : Hp} {a : Addr} {xs : List V} (s : Solid H H') (h : SqT K H a xs) : SqT K H' a xs := by
  rcases h with (h | ⟨o, h⟩) | h
  · exact .inl (.inl (s _ _ h fun _ z => nomatch z))
  · exact .inl (.inr ⟨o, s _ _ h fun _ z => nomatch z⟩)
  · exact .inr h
theorem RowsT.solid {K : PySem.W.Frag} {H H' : Hp} {r : Addr} {rows : List (List Nat)} (h : RowsT K H r rows) (s : Solid H H') : RowsT K H' r rows := by
  obtain ⟨as, h1, h2, h3⟩ := h.ex
  exact ⟨as, sqT_solid s h1, h2, fun i a row g1 g2 => sqT_solid s (h3 i a row g1 g2)⟩
theorem MadeT.solid {K : PySem.W.Frag} {H H' : Hp} {r : Addr} {m : List (Nat × Nat)} (h : MadeT K H r m) (s : Solid H H') : MadeT K H' r m := by
  obtain ⟨as, h1, h2, h3⟩ := h.ex
  exact ⟨as, sqT_solid s h1, h2, fun i a row g1 g2 => sqT_solid s (h3 i a row g1 g2)⟩
theorem Mo.solid {K : PySem.W.Frag} {H H' : Hp} {x : Addr} {rows : List (List Nat)} {m : List (Nat × Nat)} (h : Mo K H x rows m) (s : Solid H H') : Mo K H' x rows m := by
  obtain ⟨dx, t, u, v, h1, h2, h3, h4⟩ := h.ex
  exact ⟨dx, t, u, v, s _ _ h1 (fun _ z => nomatch z), h2.solid s, h3.solid s, h4.solid s⟩
theorem src_solid {H H' : Hp} {l : Addr} {n : Nat} (s : Src H l n) (b : But l H H') : Solid H H' := by
  obtain ⟨_, _, _, e⟩ := s.un
  exact Lf.But.solid e b
theorem ws_rev (x : List Nat) : revS (ws x) = ws x.reverse := by
  unfold revS ws
  simp
theorem tns_get {rows : List (List Nat)} {m : List (Nat × Nat)} {x : Nat} (h : x < rows.length) : ((tns rows m).map nv)[x]? = some (nv (Ass.tn rows m x)) := by
  unfold tns
  rw [List.getElem?_map, List.getElem?_map, List.getElem?_range h]
  rfl
theorem lw_pair {b b' : Bool} {rows rows' : List (List Nat)} {wd s s' t t' : Nat} {v v' : V} (h : ∀ w : List Nat, (∀ c ∈ w, c < wd) → (Mon.actB b' rows' s' w = t' ↔ Mon.actB b rows s w.reverse = t)) (a : LW b rows wd s t v) (c : LW b' rows' wd s' t' v') :
    (v = .non ∧ v' = .non) ∨ ∃ x x', v = wv x ∧ v' = wv x' ∧ x.length = x'.length ∧ x.length ≤ 2000 ∧ Mon.First wd (Mon.actB b' rows' s') t' x' ∧ Mon.First wd (Mon.actB b rows s) t x := by
  have rv : ∀ {w : List Nat}, (∀ c ∈ w, c < wd) → ∀ c ∈ w.reverse, c < wd := fun hw c hc => hw c (List.mem_reverse.mp hc)
  rcases a with ⟨e, no⟩ | ⟨x, e, l, fx⟩
  · rcases c with ⟨e', _⟩ | ⟨x', _, _, fx'⟩
    · exact .inl ⟨e, e'⟩
    · exact absurd ((h x' fx'.ok).mp fx'.at') (no _ (rv fx'.ok))
  · rcases c with ⟨_, no'⟩ | ⟨x', e', l', fx'⟩
    · exact absurd ((h x.reverse (rv fx.ok)).mpr (by rw [List.reverse_reverse]; exact fx.at')) (no' _ (rv fx.ok))
    · exact .inr ⟨x, x', e, e', Ass.first_len h fx fx', l.1, fx', fx⟩
theorem seq_same {t u : TS} {Ds : Ends} {σ : L2.St} {H : Hp} (h : ∀ nx : L2.St → Hp → Prop, (∀ H', Same H H' → nx σ H') → t { Ds with nx := nx } σ H) (k : ∀ H', Same H H' → u Ds σ H') : tSeq t u Ds σ H := h (u Ds) k
abbrev NPr : List Str := ["_law_source_here", "_law_monoid", "_law_other", "_law_turned", "_law_turn", "_law_x", "_law_y", "_law_count", "_law_word", "_law_back"]
def spPairs (K : PySem.W.Frag) : Sp := fun vs H Q _ => ∃ l c p q t n gens found rows m m', vs = [.ref l, .ref p, .ref q, .ref t] ∧ Src H l c ∧ c + 60 ≤ 1000000 ∧ Mo K H p rows m ∧ Mo K H q (Ass.opp rows m) m' ∧ SqT K H t ((tns rows m).map nv) ∧ Ass.Md rows gens.length m ∧ Mon.madeTab 0 (Ass.opp rows m) [] = some m' ∧ Mon.Tab n gens found rows ∧ 1 ≤ n ∧ n ≤ 4 ∧
  ∀ H', But l H H' → Src H' l (c + 60) → Q (.bl true) H'
section
variable {P : Program} {w : World} {K : PySem.W.Frag} {mg : Str → Option Value} {base : Heap}
theorem scPr : FnScope NPr ["_law_source_here", "_law_monoid", "_law_other", "_law_turned"] (defScope s_L_pairs_right) := ⟨rfl, rfl, rfl, by decide +kernel, rfl, by decide +kernel, by decide +kernel⟩
theorem ok_pairs {f : Addr} {fd : FuncData} {q : Str} (F : FunD K "_law_pairs_right" q (defArgs s_L_pairs_right) (defBody s_L_pairs_right) (defScope s_L_pairs_right) [] [] f fd) (T : Txt P w K mg base)
    (DD : Def P w K mg base CX0 1 "_law_draw" ["_law_source_here", "_law_many"] spDraw) (DZ : DefM P w K mg base CX0 1 "size" ["self"] (spSize K)) (DT : DefM P w K mg base CX0 4 "times" ["self", "one", "other"] (spTimes K))
    (DC : DefM P w K mg base CX0 4 "cycle" ["self", "number"] (spCycle K)) (DP : DefM P w K mg base CX0 4 "power" ["self", "number", "count"] (spPower K)) (DW : DefM P w K mg base CX0 3 "of_word" ["self", "word"] (spOfW K))
    (DR : DefM P w K mg base CX0 4 "least_right" ["self", "one", "other"] (spLR false K)) (DL : DefM P w K mg base CX0 4 "least_left" ["self", "one", "other"] (spLR true K)) :
    FnOk P w K mg base CX0 5 f fd ["_law_source_here", "_law_monoid", "_law_other", "_law_turned"] (spPairs K) := by
  have cl : L2.Cls K (He.ga K "Monoid") := He.cls_ok (T.d.fact 49 (f := .cls "Monoid") rfl)
  have zr : mg "range" = none := T.fr 44 "range" rfl
  have zn : mg "len" = none := T.fr 42 "len" rfl
  obtain ⟨fz, fdz, mz, Fz, bz⟩ := DZ.ex
  obtain ⟨ft, fdt, mt, Ft, bt⟩ := DT.ex
  obtain ⟨fc, fdc, mc, Fc, bc⟩ := DC.ex
  obtain ⟨fp, fdp, mp, Fp, bp⟩ := DP.ex
  obtain ⟨fw, fdw, mw, Fw, bw⟩ := DW.ex
  obtain ⟨fr, fdr, mr, Fr, br⟩ := DR.ex
  obtain ⟨fl, fdl, ml, Fl, bl⟩ := DL.ex
  refine F.ok scPr (fun vs H Q E h => ?_) (fun cdv A outer s H vs Q E hr h => ?_)
  · obtain ⟨l, c, p, qo, t, n, gens, found, rows, m, m', rfl, _⟩ := h
    rfl
  · obtain ⟨l, c, p, qo, t, n, gens, found, rows, m, m', rfl, src, c1, mo, mq, st, MD, hm', TB, n1, n4, fin⟩ := h
    have R1 : Room 1 _ := hr.mono (by decide)
    have R3 : Room 3 _ := hr.mono (by decide)
    have hu : (A.deeper (envOfC q (defScope s_L_pairs_right) s.heap.objs.size f cdv)).units + 64 < cLine := hr.units
    refine ⟨_, PSs.nox (pss_cons (ps_for PassesOwn.never rfl (pi_range1 rfl zr (pa_cons pe_int pa_nil)) (pg_name (i := 4) scPr.nd rfl (.inl rfl))
        (pss_cons (ps_par (i := 5) (j := 6) rfl scPr.nd rfl rfl (by decide) rfl rfl (pa_cons (pe_def DD R1 pass0 rfl (pa_cons (pv 0) (pa_cons (pe_meth0 (pv 1) cl mz Fz R1 bz .nil pass0) pa_nil))) (pa_cons (pe_def DD R1 pass0 rfl (pa_cons (pv 0) (pa_cons (pe_meth0 (pv 1) cl mz Fz R1 bz .nil pass0) pa_nil))) pa_nil)) (by rfl))
        (pss_cons (ps_if (pt_cmpR op_ne (pe_meth (pv 2) cl mt Ft hr bt .nil pass0 (pa_cons (pe_ix ix_tup (pv 3) (pv 5) (fun _ _ => rfl)) (pa_cons (pe_ix ix_tup (pv 3) (pv 6) (fun _ _ => rfl)) pa_nil))) (pe_ix ix_tup (pv 3) (pe_meth (pv 1) cl mt Ft hr bt .nil pass0 (pa_cons (pv 6) (pa_cons (pv 5) pa_nil))) (fun _ _ => rfl)) (nomark _)) (pss_one (ps_ret pe_bl)) pss_nil)
        (pss_cons (ps_if (pt_cmpR (op_neD hu) (pe_meth (pv 2) cl mc Fc hr bc .nil pass0 (pa_cons (pe_ix ix_tup (pv 3) (pv 5) (fun _ _ => rfl)) pa_nil)) (pe_meth (pv 1) cl mc Fc hr bc .nil pass0 (pa_cons (pv 5) pa_nil)) (nomark _)) (pss_one (ps_ret pe_bl)) pss_nil)
        (pss_cons (ps_set (i := 7) scPr.nd rfl (.inl rfl) (pe_def DD R1 pass0 rfl (pa_cons (pv 0) (pa_cons pe_int pa_nil))))
        (pss_cons (ps_if (pt_cmpR op_ne (pe_meth (pv 2) cl mp Fp hr bp .nil pass0 (pa_cons (pe_ix ix_tup (pv 3) (pv 5) (fun _ _ => rfl)) (pa_cons (pv 7) pa_nil))) (pe_ix ix_tup (pv 3) (pe_meth (pv 1) cl mp Fp hr bp .nil pass0 (pa_cons (pv 5) (pa_cons (pv 7) pa_nil))) (fun _ _ => rfl)) (nomark _)) (pss_one (ps_ret pe_bl)) pss_nil)
        (pss_cons (ps_par (i := 8) (j := 9) rfl scPr.nd rfl rfl (by decide) rfl rfl (pa_cons (pe_meth (pv 1) cl mr Fr hr br .nil pass0 (pa_cons (pv 5) (pa_cons (pv 6) pa_nil))) (pa_cons (pe_meth (pv 2) cl ml Fl hr bl .nil pass0 (pa_cons (pe_ix ix_tup (pv 3) (pv 5) (fun _ _ => rfl)) (pa_cons (pe_ix ix_tup (pv 3) (pv 6) (fun _ _ => rfl)) pa_nil))) pa_nil)) (by rfl))
        (pss_cons (ps_if (PW.pt (pw_or (pt_cmpR op_ne (pe_cmpR op_isN (pv 8) pe_non (nomark _)) (pe_cmpR op_isN (pv 9) pe_non (nomark _)) (nomark _)) (pw_or1 (PW.pt (pw_and (pt_cmpR op_notN (pv 8) pe_non (nomark _)) (pw_and1 (pt_cmpR op_ne (pe_callB call_len_str rfl zn boot_len (pa_cons (pv 8) pa_nil)) (pe_callB call_len_str rfl zn boot_len (pa_cons (pv 9) pa_nil)) (nomark _)))))))) (pss_one (ps_ret pe_bl)) pss_nil)
        (pss_cons (ps_if (PW.pt (pw_and (pt_cmpR op_notN (pv 9) pe_non (nomark _)) (pw_and1 (pt_cmpR op_ne (pe_meth (pv 1) cl mt Ft hr bt .nil pass0 (pa_cons (pv 5) (pa_cons (pe_meth (pv 1) cl mw Fw R3 bw .nil pass0 (pa_cons (pe_revS (pv 9)) pa_nil)) pa_nil))) (pv 6) (nomark _))))) (pss_one (ps_ret pe_bl)) pss_nil)
        (pss_cons (ps_par (i := 8) (j := 9) rfl scPr.nd rfl rfl (by decide) rfl rfl (pa_cons (pe_meth (pv 1) cl ml Fl hr bl .nil pass0 (pa_cons (pv 5) (pa_cons (pv 6) pa_nil))) (pa_cons (pe_meth (pv 2) cl mr Fr hr br .nil pass0 (pa_cons (pe_ix ix_tup (pv 3) (pv 5) (fun _ _ => rfl)) (pa_cons (pe_ix ix_tup (pv 3) (pv 6) (fun _ _ => rfl)) pa_nil))) pa_nil)) (by rfl))
        (pss_one (ps_if (PW.pt (pw_or (pt_cmpR op_ne (pe_cmpR op_isN (pv 8) pe_non (nomark _)) (pe_cmpR op_isN (pv 9) pe_non (nomark _)) (nomark _)) (pw_or1 (PW.pt (pw_and (pt_cmpR op_notN (pv 9) pe_non (nomark _)) (pw_and1 (pt_cmpR op_ne (pe_callB call_len_str rfl zn boot_len (pa_cons (pv 8) pa_nil)) (pe_callB call_len_str rfl zn boot_len (pa_cons (pv 9) pa_nil)) (nomark _)))))))) (pss_one (ps_ret pe_bl)) pss_nil))))))))))))
      (pss_one (ps_ret pe_bl))), ?_⟩
    have MO := MD.opp hm'
    have ac := accept_md MD
    have aq := accept_md MO
    have ol := MD.opp_len
    have p0 := MD.p0
    have n2000 := MD.F.2.1
    refine ⟨8, rfl, by omega, by omega, ?_⟩
    refine for_range (lo := 0) (n := 8) (fun i σ Hn => ∃ v4 v5 v6 v7 v8 v9 : Option V, σ = [some (.ref l), some (.ref p), some (.ref qo), some (.ref t), v4, v5, v6, v7, v8, v9] ∧ But l H Hn ∧ Src Hn l (c + 3 * i) ∧ Mo K Hn p rows m ∧ Mo K Hn qo (Ass.opp rows m) m' ∧ SqT K Hn t ((tns rows m).map nv))
      ⟨_, _, _, _, _, _, rfl, But.refl, src, mo, mq, st⟩ (fun i σ Hn hi ⟨v4, v5, v6, v7, v8, v9, eσ, bn, sn, mo, mq, st⟩ => ?_) (fun σ Hn ⟨v4, v5, v6, v7, v8, v9, eσ, bn, sn, mo, mq, st⟩ => ?_)
    · subst eσ
      rw [Int.zero_add]
      obtain ⟨dx, _, _, _, hp, _⟩ := id mo.ex
      refine ⟨_, rfl, _, rfl, p, dx, _, rfl, hp, rfl, p, rows, m, rfl, mo, l, c + 3 * i, _, rfl, sn, by omega, by omega, by omega, fun x H1 x0 x1 b1 s1 => ?_⟩
      obtain ⟨x, rfl⟩ : ∃ x' : Nat, x = (x' : Nat) := ⟨x.toNat, by omega⟩
      have so1 := src_solid sn b1
      have mo1 := mo.solid so1
      obtain ⟨dx1, _, _, _, hp1, _⟩ := id mo1.ex
      refine ⟨_, rfl, _, rfl, p, dx1, _, rfl, hp1, rfl, p, rows, m, rfl, mo1, l, c + 3 * i + 1, _, rfl, s1, by omega, by omega, by omega, fun y H2 y0 y1 b2 s2 => ?_⟩
      obtain ⟨y, rfl⟩ : ∃ y' : Nat, y = (y' : Nat) := ⟨y.toNat, by omega⟩
      have so2 := src_solid s1 b2
      have mo2 := mo1.solid so2
      have mq2 := (mq.solid so1).solid so2
      have st2 := sqT_solid so2 (sqT_solid so1 st)
      have bn2 := (bn.trans b1).trans b2
      clear so1 so2 mo1 hp1 mo mq st hp bn b1 b2 s1 sn
      have xl : x < rows.length := by omega
      have yl : y < rows.length := by omega
      have tx := MD.tn_lt xl
      have ty := MD.tn_lt yl
      have tx' : Ass.tn rows m x < (Ass.opp rows m).length := by rw [ol]; exact tx
      have ty' : Ass.tn rows m y < (Ass.opp rows m).length := by rw [ol]; exact ty
      refine ⟨_, _, rfl, ?_⟩
      -- products
      obtain ⟨dp, _, _, _, hp2, _⟩ := id mo2.ex
      obtain ⟨dq, _, _, _, hq2, _⟩ := id mq2.ex
      refine ⟨_, rfl, qo, dq, _, rfl, hq2, rfl, _, rfl, _, rfl, t, _, _, nv (Ass.tn rows m x), rfl, rfl, st2, atI_nat (tns_get xl), _, rfl, _, rfl, t, _, _, nv (Ass.tn rows m y), rfl, rfl, st2, atI_nat (tns_get yl), qo, _, m', _, _, _, rfl, mq2, MO.F, hm', MO.len, tx', ty', fun H3 s3 => ?_⟩
      refine ⟨_, rfl, _, rfl, p, dp, _, rfl, s3 _ _ hp2, rfl, _, rfl, _, rfl, p, rows, m, _, y, x, rfl, mo2.same s3, MD.F, MD.made, MD.len, yl, xl, fun H4 s4 => ?_⟩
      have s24 := s3.trans s4
      have e1 : Mon.walk (Ass.opp rows m) (Ass.tn rows m x) ((Mon.wordTab m').getD (Ass.tn rows m y) []) = Ass.tn rows m (Ass.mt rows m y x) := MD.opp_mt hm' xl yl
      have e2 : Mon.walk rows y ((Mon.wordTab m).getD x []) = Ass.mt rows m y x := rfl
      rw [e1, e2]
      refine ⟨t, _, _, nv (Ass.tn rows m (Ass.mt rows m y x)), rfl, rfl, Lf.SqT.same s24 st2, atI_nat (tns_get (MD.lt yl xl)), rfl, _, rfl, ifF (by simp) ?_⟩
      -- cycles
      refine ⟨_, rfl, qo, dq, _, rfl, s24 _ _ hq2, rfl, _, rfl, _, rfl, t, _, _, nv (Ass.tn rows m x), rfl, rfl, Lf.SqT.same s24 st2, atI_nat (tns_get xl), qo, _, m', _, _, rfl, mq2.same s24, MO, tx', fun t1 L1 i1 H5 s5 cy1 ht1 => ?_⟩
      have s25 := s24.trans s5
      refine ⟨_, rfl, p, dp, _, rfl, s25 _ _ hp2, rfl, _, rfl, p, rows, m, _, x, rfl, mo2.same s25, MD, xl, fun t2 L2' i2 H6 s6 cy2 ht2 => ?_⟩
      obtain ⟨eL, eI⟩ := cy1.uniq (cy2.opp MD hm' xl)
      subst eL eI
      have s26 := s25.trans s6
      refine ne_dI (d := .tuple [.int ((i1 : Nat) : Int), .int ((L1 - i1 : Nat) : Int)]) (.tup (SqT.of (s6 _ _ ht1)) (.cons (.int _) (.cons (.int _) .nil))) (.tup (SqT.of ht2) (.cons (.int _) (.cons (.int _) .nil))) (by unfold SeqAt.shaped; simp [PyData.canLay0, PyData.canLayAll0, PyData.depth, PyData.depthAll]) ⟨_, rfl, ifF rfl ?_⟩
      clear ht1 ht2 s5 s6 s3 s4
      -- powers
      refine ⟨_, rfl, l, c + 3 * i + 2, 40, rfl, s2.same s26, by omega, by omega, by omega, fun ct H7 c0 c1' b7 s7 => ?_⟩
      obtain ⟨ct, rfl⟩ : ∃ y' : Nat, ct = (y' : Nat) := ⟨ct.toNat, by omega⟩
      have so7 := src_solid (s2.same s26) b7
      have mo7 := (mo2.same s26).solid so7
      have mq7 := (mq2.same s26).solid so7
      have st7 := sqT_solid so7 (Lf.SqT.same s26 st2)
      have bn7 := (bn2.trans (But.of s26)).trans b7
      clear mo2 mq2 st2 hp2 hq2 bn2 b7 so7 s26 s25 s24 s2
      obtain ⟨dp, _, _, _, hp7, _⟩ := id mo7.ex
      obtain ⟨dq, _, _, _, hq7, _⟩ := id mq7.ex
      refine ⟨_, rfl, qo, dq, _, rfl, hq7, rfl, _, rfl, _, rfl, t, _, _, nv (Ass.tn rows m x), rfl, rfl, st7, atI_nat (tns_get xl), _, rfl, qo, _, m', _, _, ct, rfl, mq7, MO, tx', by omega, fun r1 L1 i1 H8 s8 cy1 er1 => ?_⟩
      refine ⟨_, rfl, _, rfl, p, dp, _, rfl, s8 _ _ hp7, rfl, _, rfl, _, rfl, p, rows, m, _, x, ct, rfl, mo7.same s8, MD, xl, by omega, fun r2 L2' i2 H9 s9 cy2 er2 => ?_⟩
      obtain ⟨eL, eI⟩ := cy1.uniq (cy2.opp MD hm' xl)
      subst eL eI
      rw [MD.pm_opp hm' xl, ← er2] at er1
      subst er1
      have r2l : r2 < rows.length := by rw [er2]; exact MD.pm_lt xl _
      have s79 := s8.trans s9
      refine ⟨t, _, _, nv (Ass.tn rows m r2), rfl, rfl, Lf.SqT.same s79 st7, atI_nat (tns_get r2l), rfl, _, rfl, ifF (by simp) ?_⟩
      -- least words, behind and in front
      refine ⟨_, rfl, p, dp, _, rfl, s79 _ _ hp7, rfl, _, rfl, _, rfl, p, rows, m, _, x, y, rfl, mo7.same s79, ac, xl, yl, fun va H10 s10 la => ?_⟩
      have s710 := s79.trans s10
      refine ⟨_, rfl, qo, dq, _, rfl, s710 _ _ hq7, rfl, _, rfl, _, rfl, t, _, _, nv (Ass.tn rows m x), rfl, rfl, Lf.SqT.same s710 st7, atI_nat (tns_get xl), _, rfl, _, rfl, t, _, _, nv (Ass.tn rows m y), rfl, rfl, Lf.SqT.same s710 st7, atI_nat (tns_get yl), qo, _, m', _, _, _, rfl, mq7.same s710, aq, tx', ty', fun vb H11 s11 lb => ?_⟩
      have s711 := s710.trans s11
      refine ⟨_, _, rfl, ?_⟩
      have pr := lw_pair (fun w hw => MD.act1 hm' xl yl hw) la lb
      have s7' := s7.same s711
      have mo11 := mo7.same s711
      have mq11 := mq7.same s711
      have st11 := Lf.SqT.same s711 st7
      have bn11 := bn7.trans (But.of s711)
      have hp11 := s711 _ _ hp7
      have hq11 := s711 _ _ hq7
      clear s711 s710 s79 s8 s9 s10 s11 mo7 mq7 st7 hp7 hq7 bn7 s7 la lb
      have ub : ∀ {wa wb : List Nat}, wa.length = wb.length → wa.length ≤ 2000 → wb.length ≤ 2000 := fun h k => by omega
      dsimp only
      refine seq_same (fun nx next => ?_) (fun H12 s12 => ?_)
      · rcases pr with ⟨rfl, rfl⟩ | ⟨wa, wb, rfl, rfl, ll, l2000, fb, fa⟩
        · exact ⟨_, rfl, rfl, _, rfl, rfl, rfl, _, rfl, ifF rfl ⟨_, rfl, rfl, _, rfl, ifF rfl (ifF rfl (next _ (L2.Same.refl _)))⟩⟩
        · exact ⟨_, rfl, rfl, _, rfl, rfl, rfl, _, rfl, ifF rfl ⟨_, rfl, rfl, _, rfl, ifT rfl ⟨_, rfl, _, rfl, by rw [ws_len]; show wa.length ≤ 16777216; omega, _, rfl, _, rfl, by rw [ws_len]; show wb.length ≤ 16777216; have := ub ll l2000; omega, rfl, _, rfl, by rw [ws_len, ws_len, ll]; exact ifF (by simp) (next _ (L2.Same.refl _))⟩⟩⟩
      refine seq_same (fun nx next => ?_) (fun H13 s13 => ?_)
      · rcases pr with ⟨rfl, rfl⟩ | ⟨wa, wb, rfl, rfl, ll, l2000, fb, fa⟩
        · exact ⟨_, rfl, rfl, _, rfl, ifF rfl (ifF rfl (next _ (L2.Same.refl _)))⟩
        · have rb : ∀ c ∈ wb.reverse, c < gens.length := fun d hd => fb.ok d (List.mem_reverse.mp hd)
          have eb : Mon.walk rows x wb.reverse = y := (MD.act1 hm' xl yl fb.ok).mp fb.at'
          have sh := Ass.path_short TB n4 n1 (x := x) (y := y) (by rw [← TB.len]; exact xl) rb eb fun v hv e => by
            have := fa.least v hv e
            rw [List.length_reverse]
            omega
          rw [List.length_reverse] at sh
          refine ⟨_, rfl, rfl, _, rfl, ifT rfl ?_⟩
          refine ⟨_, rfl, p, dp, _, rfl, s12 _ _ hp11, rfl, _, rfl, _, rfl, p, dp, _, rfl, s12 _ _ hp11, rfl, _, rfl, ws wb, rfl, by rw [ws_len]; show wb.length ≤ 16777216; omega, ?_⟩
          rw [ws_rev]
          refine ⟨p, rows, m, _, wb.reverse, rfl, mo11.same s12, MD.F, rb, by rw [List.length_reverse]; exact sh, fun H14 s14 => ?_⟩
          have w0 := Ass.walk_lt MD.F p0 rb
          refine ⟨p, rows, m, _, x, _, rfl, mo11.same (s12.trans s14), MD.F, MD.made, MD.len, xl, w0, fun H15 s15 => ?_⟩
          have e3 : Mon.walk rows x ((Mon.wordTab m).getD (Mon.walk rows 0 wb.reverse) []) = y := by
            have := MD.walk_mt xl wb.reverse.length rfl rb
            rw [eb] at this
            exact this.symm
          rw [e3]
          exact ⟨_, rfl, rfl, _, rfl, ifF (by simp) (next _ (s14.trans s15))⟩
      have s1113 := s12.trans s13
      refine ⟨_, rfl, p, dp, _, rfl, s1113 _ _ hp11, rfl, _, rfl, _, rfl, p, rows, m, _, x, y, rfl, mo11.same s1113, ac, xl, yl, fun va H14 s14 la => ?_⟩
      have s1114 := s1113.trans s14
      refine ⟨_, rfl, qo, dq, _, rfl, s1114 _ _ hq11, rfl, _, rfl, _, rfl, t, _, _, nv (Ass.tn rows m x), rfl, rfl, Lf.SqT.same s1114 st11, atI_nat (tns_get xl), _, rfl, _, rfl, t, _, _, nv (Ass.tn rows m y), rfl, rfl, Lf.SqT.same s1114 st11, atI_nat (tns_get yl), qo, _, m', _, _, _, rfl, mq11.same s1114, aq, tx', ty', fun vb H15 s15 lb => ?_⟩
      have s1115 := s1114.trans s15
      refine ⟨_, _, rfl, ?_⟩
      have pr2 := lw_pair (fun w hw => MD.act2 xl yl hw) la lb
      have out : ∃ v4 v5 v6 v7 v8 v9 : Option V, [some (.ref l), some (.ref p), some (.ref qo), some (.ref t), some (.int (i : Nat)), some (nv x), some (nv y), some (nv ct), some va, some vb] = [some (.ref l), some (.ref p), some (.ref qo), some (.ref t), v4, v5, v6, v7, v8, v9] ∧ But l H H15 ∧ Src H15 l (c + 3 * (i + 1)) ∧ Mo K H15 p rows m ∧ Mo K H15 qo (Ass.opp rows m) m' ∧ SqT K H15 t ((tns rows m).map nv) :=
        ⟨_, _, _, _, _, _, rfl, bn11.trans (But.of s1115), (s7'.same s1115).up (by omega), mo11.same s1115, mq11.same s1115, Lf.SqT.same s1115 st11⟩
      rcases pr2 with ⟨rfl, rfl⟩ | ⟨wa, wb, rfl, rfl, ll, l2000, fb, fa⟩
      · exact ⟨_, rfl, rfl, _, rfl, rfl, rfl, _, rfl, ifF rfl ⟨_, rfl, rfl, _, rfl, ifF rfl (ifF rfl out)⟩⟩
      · exact ⟨_, rfl, rfl, _, rfl, rfl, rfl, _, rfl, ifF rfl ⟨_, rfl, rfl, _, rfl, ifT rfl ⟨_, rfl, _, rfl, by rw [ws_len]; show wa.length ≤ 16777216; omega, _, rfl, _, rfl, by rw [ws_len]; show wb.length ≤ 16777216; have := ub ll l2000; omega, rfl, _, rfl, by rw [ws_len, ws_len, ll]; exact ifF (by simp) out⟩⟩⟩
    · subst eσ
      exact fin _ bn (sn.up (by omega))
end
end K16

set_option Elab.async false
set_option linter.all false
set_option maxRecDepth 100000
set_option maxHeartbeats 4000000
/-! Functions that are promised only where no repr is under way; repr of a list of ints. -/
namespace Lf
open PySem PySem.Spec PyProof.Rows L2
/-- a promise of calls from where no repr is under way -/
structure FnG (P : Program) (w : World) (K : PySem.W.Frag) (mg : Str → Option Value) (base : Heap) (CX : CXT) (k : Nat) (f : Addr) (fd : FuncData) (ps : List Str) (sp : Sp) : Prop where
  len : ∀ vs H Q E, sp vs H Q E → vs.length = ps.length
  run : ∀ (A : Around) (outer : List Env) (s : Shared) (H : Hp) (args : Args) (us : List Value) (vs : List V) (Q : VK) (E : XK), A.guards = some [] → Room k A → Env0 P w K mg base A outer s H → BindsTo s fd args (ps.zip us) → Vals vs us → sp vs H Q E →
    codeAny (model P w) A (.call (.ref f) args) (CR CX outer P w H s Q E) s
section
variable {CX : CXT} {P : Program} {w : World} {K : PySem.W.Frag} {mg : Str → Option Value} {base : Heap} {x qual : Str} {params : Arguments} {body : List Stmt} {scope : Scope} {f : Addr} {fd : FuncData}
theorem okG {N ps : List Str} {k : Nat} {sp : Sp} (F : FunD K x qual params body scope [] [] f fd) (S : FnScope N ps scope) (len : ∀ vs H Q E, sp vs H Q E → vs.length = ps.length)
    (hbody : ∀ (cdv : Value) (A : Around) (outer : List Env) (s : Shared) (H : Hp) (vs : List V) (Q : VK) (E : XK), A.guards = some [] → Room k (A.deeper (envOfC qual scope s.heap.objs.size f cdv)) → sp vs H Q E →
      ∃ t, PSs (cxOf CX P w K mg base N qual scope f cdv A outer s H E) body t ∧ t { nx := fun _ H' => Q .non H', rt := Q } (L2.start N vs) H) : FnG P w K mg base CX (k + 1) f fd ps sp := by
  obtain ⟨oc, od, dV, kV, doc, pm, an, cdv, ct, osl, rfl, lk, hcd, _, _⟩ := F.ex
  refine ⟨len, fun A outer s H args us vs Q E hgd hr e0 hb r hsp => ?_⟩
  have hl := len _ _ _ _ hsp
  have KX : K.In s.heap := e0.mod.kin.keeps fun b o e => (e0.bs b o e).1
  have hk : ∀ y ∈ ps.zip us, scope.names.lookup y.1 = some .local ∨ (scope.names.lookup y.1 = some .cell ∧ ((cellsFrom (s.heap.objs.size + 1) scope.names []).lookup y.1).isSome = true) := fun y hy =>
    (S.par y.1 (List.of_mem_zip hy).1).imp id fun q => ⟨q, PySem.W.cellsFrom_some _ _ _ (.inl q)⟩
  refine codeAny_call_function hr.depth (KX _ _ lk) rfl S.co S.gen rfl (PySem.W.codeRec_of KX hcd) (hb _ _ _ _ (wpAny_newFunctionEnv_cells S.kind hk fun env he s1 g => ?_))
  subst he
  refine ⟨(e0.mod.nolimit.keeps fun b o e => (e0.bs b o e).1).keeps g.toInCall.keep, codeAny_func ?_⟩
  obtain ⟨t, ht, hq⟩ := hbody cdv A outer s H vs Q E hgd (hr.deeper _) hsp
  refine wpAny_mono (ht.run [] s1 (L2.start N vs) H _ (inv_start S hr.hd e0 hl r g) hq) (fun fl s' hs => ?_) fun _ _ hs => hs
  cases fl with
  | brk => exact hs.elim fun _ z => z.elim fun _ z => False.elim z.2
  | cont => exact hs.elim fun _ z => z.elim fun _ z => False.elim z.2
  | next =>
    obtain ⟨_, H', J, q⟩ := hs
    exact ⟨V.non, H', J.os, J.bare, J.base, J.hok, rfl, q⟩
  | ret u =>
    obtain ⟨v, _, H', J, rv, q⟩ := hs
    exact ⟨v, H', J.os, J.bare, J.base, J.hok, rv, q⟩
end
/-- a def by its name -/
structure DefG (P : Program) (w : World) (K : PySem.W.Frag) (mg : Str → Option Value) (base : Heap) (CX : CXT) (k : Nat) (x : Str) (ps : List Str) (sp : Sp) : Prop where
  ex : ∃ f fd, mg x = some (.ref f) ∧ PySem.W.keepIn K (.ref f) = true ∧ FnG P w K mg base CX k f fd ps sp ∧ Binds K fd ps []
section
variable {X : Cx} {CX : CXT} {k : Nat} {x : Str} {ps : List Str} {sp : Sp} {E : XK} {e : Expr} {es : List Expr} {t : TA} {p pos : Pos}
theorem pe_defG (D : DefG X.prog X.w X.K X.mg X.base CX k x ps sp) (hgd : X.A.guards = some []) (hr : Room k X.A) (hx : Passes CX X E) (hg : Gl X x) (ha : PA X (e :: es) t)
    (hdb : (x == ("__debug__" : Str)) = false := by decide +kernel) (he : starEach (e :: es) X.env = (false, eval e X.env) :: starEach es X.env := by rfl)
    (hpl : (backTo pos (starEach es X.env)).any (·.1) = false := by rfl) : PE X (.Call (.Name x p) (e :: es) [] pos) (fun σ H Q => t σ H fun vs H1 => sp vs H1 Q E) := by
  obtain ⟨f, fd, g, kp, F, b⟩ := D.ex
  refine ⟨fun pins s σ H Q I h => wpAny_Call_Name_kw (ld_glob I hg g ?_ hdb)⟩
  refine PySem.W.callWith_K (h₀ := X.base) I.ok.mod.kin kp (thn (ha.run pos pins s σ H _ I h) fun us s1 ⟨vs, H1, I1, r, q⟩ => ⟨I1.kIn, ?_⟩) he hpl
  have b' := b s1 us I1.kIn (by rw [List.append_nil, ← r.length]; exact F.len _ _ _ _ q)
  rw [List.append_nil] at b'
  refine wpAny_call (codeAny_mono (F.run X.A X.stack s1 H1 ⟨us, []⟩ us vs Q E hgd hr I1.env0 b' r q) fun r' s' hq => ?_)
  cases r' with
  | error e => exact hx pins σ H1 s1 e s' I1 hq
  | ok fl =>
    cases fl with
    | ret u => exact I1.after hq
    | next => exact False.elim hq
    | brk => exact False.elim hq
    | cont => exact False.elim hq
end
/-! ### repr of a list of ints -/
abbrev reprL (ns : List Int) : Str := (PyData.list (ns.map PyData.int)).shown
theorem reads_ints {h : Heap} : ∀ {ns : List Int} {us : List Value}, Vals (ns.map V.int) us → ReadsAll h us (ns.map PyData.int) []
  | [], _, r => by
    rw [List.map_nil] at r
    cases r
    exact .nil
  | n :: ns, _, r => by
    rw [List.map_cons] at r
    cases r with
    | cons a b =>
      obtain ⟨t, rfl⟩ := (show ∃ t, _ = Value.int n t from a)
      exact .cons (.int n t) (reads_ints b)
theorem ints_noDict : ∀ (ns : List Int), PyData.hasDictAll (ns.map PyData.int) = false
  | [] => rfl
  | n :: ns => by rw [List.map_cons, PyData.hasDictAll, PyData.hasDict, ints_noDict ns]; rfl
theorem ints_depth : ∀ (ns : List Int), PyData.depthAll (ns.map PyData.int) = 0
  | [] => rfl
  | n :: ns => by rw [List.map_cons, PyData.depthAll, PyData.depth, ints_depth ns]; rfl
theorem call_reprInts {X : Cx} (hg : X.A.guards = some []) (hu : X.A.units + 9 < cLine) : CallR X (.builtin "repr") (fun xs H Q => ∃ p ns, xs = [.ref p] ∧ SqL X.K H p (ns.map V.int) ∧ (PyData.list (ns.map PyData.int)).showable = true ∧ (reprL ns).length ≤ sizeLine ∧ Q (.str (reprL ns)) H) := by
  intro pins s σ H xs us Q I r h
  obtain ⟨p, ns, rfl, hq, sh, hz, q⟩ := h
  obtain ⟨u, rfl, e⟩ := vals1 r
  cases e
  obtain ⟨its, rv, ⟨o, n, e1, e2, e3, e4⟩, _⟩ := I.list hq
  refine repr_of_reads' (h₀ := s.heap) (.list e1 e2 e4 (by rw [List.toList_toArray]; exact reads_ints rv)) sh (fun z => ?_) hg ?_ (fun _ _ z => z) (fun h' u tk hk => ?_) hz
  · rw [PyData.hasDict, ints_noDict] at z
    cases z
  · rw [PyData.depth, ints_depth]
    omega
  · exact ⟨.str (reprL ns), H, I.kept hk, ⟨u, rfl⟩, q⟩
theorem small_text : ∀ n : Nat, n < 300 → ((PyData.int (n : Nat)).shown).length ≤ 3 := by decide +kernel
theorem small_show : ∀ n : Nat, n < 300 → (PyData.int (n : Nat)).showable = true := by decide +kernel
theorem repr_small : ∀ {ns : List Nat}, (∀ n ∈ ns, n < 300) → PyData.showableAll ((ns.map fun n => ((n : Nat) : Int)).map PyData.int) = true ∧ ((PyData.shownAll ((ns.map fun n => ((n : Nat) : Int)).map PyData.int)).map (·.length)).sum ≤ 3 * ns.length ∧ (PyData.shownAll ((ns.map fun n => ((n : Nat) : Int)).map PyData.int)).length = ns.length
  | [], _ => ⟨rfl, Nat.le_refl _, rfl⟩
  | n :: ns, h => by
    obtain ⟨a, b, c⟩ := repr_small (ns := ns) fun m hm => h m (List.mem_cons_of_mem _ hm)
    have h1 := small_text n (h n List.mem_cons_self)
    have h2 := small_show n (h n List.mem_cons_self)
    rw [List.map_cons, List.map_cons]
    refine ⟨?_, ?_, ?_⟩
    · rw [PyData.showableAll, h2, a]
      rfl
    · rw [PyData.shownAll, List.map_cons, List.sum_cons, List.length_cons]
      omega
    · rw [PyData.shownAll, List.length_cons, c, List.length_cons]
/-- repr of numbers below 300 -/
theorem reprOk {ns : List Nat} (h : ∀ n ∈ ns, n < 300) (l : ns.length ≤ 100000) : (PyData.list ((ns.map fun n => ((n : Nat) : Int)).map PyData.int)).showable = true ∧ (reprL (ns.map fun n => ((n : Nat) : Int))).length ≤ sizeLine := by
  obtain ⟨a, b, c⟩ := repr_small h
  refine ⟨by rw [PyData.showable]; exact a, ?_⟩
  have := listText_len_le (PyData.shownAll ((ns.map fun n => ((n : Nat) : Int)).map PyData.int))
  unfold reprL
  rw [PyData.shown, sizeLine_eq]
  omega
end Lf

set_option Elab.async false
set_option linter.all false
set_option maxRecDepth 100000
set_option maxHeartbeats 4000000
/-! try: .. except X as e: .. except Y: ..; what a suite asks of e: isinstance, told(). -/
namespace Lf
open PySem PySem.Spec PyProof.Rows L2
/-- clauses: the first one by a name, the others without -/
def wAsM (K : PySem.W.Frag) (c : Value) (i : Nat) (ts : Addr → Value → Option Addr → TS) (rest : Ends → WX) (D : Ends) : WX := fun cls d σ H =>
  ∃ b, PySem.W.exmOne K cls c = some b ∧ (b = true → ∀ a, H a = none → ts a cls d ⟨fun σ' H' => D.nx (σ'.set i none) H', D.rt, fun σ' H' => D.bk (σ'.set i none) H', fun σ' H' => D.ct (σ'.set i none) H'⟩ (σ.set i (some (.ref a))) H) ∧ (b = false → rest D cls d σ H)
/-- with as many slots as there are names -/
def wLen (n : Nat) (W : WX) : WX := fun cls d σ H => σ.length = n → W cls d σ H
section
variable {X : Cx} {x n : Str} {c : Value} {i : Nat} {body suite : List Stmt} {b1 : Stmt} {np pos p3 : Pos} {tb : WX → TS} {ts : Addr → Value → Option Addr → TS} {Wout : WX} {more : List ExceptHandler} {l : List (Value × (Addr → Value → Option Addr → TS))}
theorem ps_try_asM (st : X.stack = X.env :: X.outer) (fr : X.env.frame = some X.env.locals) (nd : X.N.Nodup) (ni : X.N[i]? = some n) (kd : X.env.kindOf n = some .local) (nm : Names X x c) (tk : Takes X Wout)
    (inner : ∀ (W : WX) (pn : List (Addr × Obj)) (xe : Value → Shared → Prop), Takes (X.tr pn xe) W → PassesOwn (model X.prog X.w) X.A X.env xe → PSs (X.tr pn xe) body (tb W))
    (first : ∀ (a : Addr) (o : Obj) (cls : Value) (d : Option Addr) (pn : List (Addr × Obj)), Zc cls d o → (∃ vs, o.data = .fields vs) → PSs (X.suite a ((a, o) :: pn)) (b1 :: suite) (ts a cls d)) (others : HdsOk X more l) :
    PS X (.Try body (.ExceptHandler (some (.Name x np)) (some n) (b1 :: suite) p3 :: more) [] [] pos) (fun D σ H => tb (wLen X.N.length (wAsM X.K c i ts (fun D => wMany X.K Wout D l) D)) D σ H) := by
  refine ⟨fun pins s σ H D I0 h => ?_⟩
  have ok := I0.ok
  have fa : X.A.frames = some (X.env :: X.outer) := by rw [ok.frames, st]
  have lc : Loc X.env.scope n := .inl kd
  refine wpAny_Try_except ?_
  refine wpAny_mono ((inner (wLen X.N.length (wAsM X.K c i ts (fun D => wMany X.K Wout D l) D)) (X.pn ++ pins) (fun e s1 => wpAny (model X.prog X.w) X.A (noteFrame e X.env) (fun _ s2 => wpAny (model X.prog X.w) X.A (setFlight e none) (fun _ s3 =>
    wpAny (model X.prog X.w) X.A (handleBy e X.env (.ExceptHandler (some (.Name x np)) (some n) (b1 :: suite) p3 :: more)) (SP X pins D) X.xe s3) X.xe s2) X.xe s1) (fun u s' q => ?_) PassesOwn.looking).run [] s σ H D (I0.toTry _) h) (fun f s1 q => ?_) (fun e s1 q => q)
  · obtain ⟨a, B, sI, pins', σ', H', cls, d, rfl, J', nb, up, sky, na, os, ag, w⟩ := q
    have J0 : Inv X pins σ' H' sI := J'.ofTry ok
    have sk : Sky B (X.env :: X.outer) a (Zc cls d) X.env.locals s'.heap := by rw [← st]; exact sky
    show wpAny (model X.prog X.w) X.A (noteFrame (.ref a) X.env) _ _ _
    refine Sky.land Zc.steady fa fr sk fun h1 g1 u1 => ?_
    have J1 : Inv X pins σ' H' { s' with heap := h1 } := J0.landed nb g1.1 (up.trans u1) os ag
    obtain ⟨o1, v1, e1, z1, d1⟩ := g1.there
    have off : a ∉ frs (X.env :: X.outer) := fun hm => by
      obtain ⟨_, o', e', nf⟩ := g1.2.2.1.mem hm
      rw [e1] at e'
      cases e'
      exact nf _ d1
    have nL : a ≠ X.env.locals := fun z => off (List.mem_filterMap.mpr ⟨X.env, List.mem_cons_self, by rw [fr, z]⟩)
    have nF : a ∉ X.fs := fun hm => by
      obtain ⟨e, he, q⟩ := List.mem_filterMap.mp hm
      exact off (List.mem_filterMap.mpr ⟨e, List.mem_cons_of_mem _ he, q⟩)
    have S1 := J1.suite e1 d1 na nL nF
    have L1 : PySem.W.Looks (model X.prog X.w) h1 (typeOf (.ref a)) cls := fun A Q E s k q => wpAny_typeOf_ref (k _ _ e1) (by rw [z1.1]; exact q)
    have asks : ∀ {y : Str} {cv : Value} {yp : Pos} {Q : Value → Shared → Prop} {E : Value → Shared → Prop}, Names X y cv → Q cv { s' with heap := h1 } → wpAny (model X.prog X.w) (X.A.mark (some (.ref a))) (eval (.Name y yp) X.env) Q E { s' with heap := h1 } := fun {y cv yp Q E} nm q => by
      obtain ⟨hg, hb, hm | ⟨hm, hv, hn⟩⟩ := nm
      · exact ld_glob (X := X.suite a ((a, o1) :: (X.pn ++ pins))) S1 hg hm q hb
      · exact ld_blt (X := X.suite a ((a, o1) :: (X.pn ++ pins))) S1 hg hm hv q hn hb
    have rest : ∀ {hs : List ExceptHandler} {l' : List (Value × (Addr → Value → Option Addr → TS))}, HdsOk X hs l' → wMany X.K Wout D l' cls d σ' H' →
        wpAny (model X.prog X.w) X.A (handleBy (.ref a) X.env hs) (SP X pins D) X.xe { s' with heap := h1 } := by
      intro hs l' hk
      induction hk with
      | nil =>
        intro w
        refine wpAny_handleBy_nil ?_
        obtain ⟨k1, k2, k3, oe, vs, T, oT, ts', he, hz, hd, f1, hr⟩ := id g1
        unfold PySem.passOn
        refine wpAny_bind (wpAny_field he hd f1 ?_)
        rw [if_neg (show ¬ ((Value.ref T == Value.none) = true) from by simp)]
        have out : wpAny (model X.prog X.w) X.A (setFlight (.ref a) X.env.frame) (fun _ s4 => wpAny (model X.prog X.w) X.A (throw (.ref a) : Sem Flow) (SP X pins D) X.xe s4) X.xe { s' with heap := h1 } := by
          rw [fr]
          exact HandSPX.setFlight_upZ g1 fun h2 b2 u2 => wpAny_throw (tk _ _ ⟨a, B, sI, pins, σ', H', cls, d, rfl, J0, nb, (up.trans u1).trans u2, .inr (.inr (by rw [st]; exact b2)), na, os, ag, w⟩)
        first
          | exact wpAny_bind (wpAny_pure (wpAny_bind out))
          | exact wpAny_bind out
      | @cons y cv ts2 c1 suite2 yp p4 more2 l2 nm2 hsu r ih =>
        intro w
        obtain ⟨b, hb1, yes, no⟩ := w
        refine wpAny_handleBy_cons (codeAny_handlers_test ?_) (by intro q; cases q)
        refine asks nm2 ((PySem.W.exm_one (M := model X.prog X.w) J1.kIn L1 hb1).here ?_)
        cases b with
        | true =>
          refine codeAny_handlers_suite ?_
          refine HandSPX.lands_againZ g1 fun h2 g2 u2 => ?_
          have J2 : Inv X pins σ' H' { s' with heap := h2 } := J0.landed nb g2.1 ((up.trans u1).trans u2) os ag
          obtain ⟨o2, v2, e2, z2, d2⟩ := g2.there
          refine wpAny_mono ((hsu a o2 cls d (X.pn ++ pins) z2 ⟨_, d2⟩).run [] _ _ H' _ (J2.suite e2 d2 na nL nF) (yes rfl a na)) (fun f s6 q => ?_) (fun _ _ z => False.elim z)
          cases f with
          | ret u =>
            obtain ⟨v6, σ6, H6, S6, r6, q6⟩ := q
            exact ⟨_, _, _, S6.unsuite ok, r6, q6⟩
          | next => obtain ⟨σ6, H6, S6, q6⟩ := q; exact ⟨_, _, S6.unsuite ok, q6⟩
          | brk => obtain ⟨σ6, H6, S6, q6⟩ := q; exact ⟨_, _, S6.unsuite ok, q6⟩
          | cont => obtain ⟨σ6, H6, S6, q6⟩ := q; exact ⟨_, _, S6.unsuite ok, q6⟩
        | false =>
          show wpAny _ X.A (handleBy (.ref a) X.env more2) _ _ _
          exact ih (no rfl)
    obtain ⟨b, hb1, yes, no⟩ := w J0.len
    refine wpAny_handleBy_cons (codeAny_handlers_test ?_) (by intro q; cases q)
    refine asks nm ((PySem.W.exm_one (M := model X.prog X.w) J1.kIn L1 hb1).here ?_)
    cases b with
    | false =>
      show wpAny _ X.A (handleBy (.ref a) X.env more) _ _ _
      exact rest others (no rfl)
    | true =>
      refine codeAny_handlers_suite_as ?_
      refine HandSPX.lands_againZ g1 fun h2 g2 u2 => ?_
      have J2 : Inv X pins σ' H' { s' with heap := h2 } := J0.landed nb g2.1 ((up.trans u1).trans u2) os ag
      obtain ⟨o2, v2, e2, z2, d2⟩ := g2.there
      refine store_ok (X := X.suite a ((a, o2) :: (X.pn ++ pins))) (v := .ref a) (J2.suite e2 d2 na nL nF) nd ni lc rfl (fun s5 S5 => ?_) (.inr kd)
      refine wpAny_mono ((first a o2 cls d (X.pn ++ pins) z2 ⟨_, d2⟩).run [] s5 _ H' _ S5 (yes rfl a na)) (fun f s6 q => ?_) (fun _ _ z => False.elim z)
      have gone : ∀ {σ6 : L2.St} {H6 : Hp} {Q : Shared → Prop}, Inv (X.suite a ((a, o2) :: (X.pn ++ pins))) [] σ6 H6 s6 → (∀ s7, Inv X pins (σ6.set i none) H6 s7 → Q s7) →
          wpAny (model X.prog X.w) X.A (do bindName X.env n .none; unbindBehindTheSuite X.env n p3) (fun _ s7 => Q s7) X.xe s6 := fun {σ6 H6 Q} S6 hq => gone_ok (S6.unsuite ok) nd ni kd hq
      cases f with
      | ret u =>
        obtain ⟨v6, σ6, H6, S6, r6, q6⟩ := q
        exact gone S6 fun s7 J7 => ⟨_, _, _, J7, r6, q6⟩
      | next => obtain ⟨σ6, H6, S6, q6⟩ := q; exact gone S6 fun s7 J7 => ⟨_, _, J7, q6⟩
      | brk => obtain ⟨σ6, H6, S6, q6⟩ := q; exact gone S6 fun s7 J7 => ⟨_, _, J7, q6⟩
      | cont => obtain ⟨σ6, H6, S6, q6⟩ := q; exact gone S6 fun s7 J7 => ⟨_, _, J7, q6⟩
  · cases f with
    | ret u =>
      obtain ⟨v, σ', H', J', r, q⟩ := q
      exact ⟨v, σ', H', J'.ofTry ok, r, q⟩
    | next => obtain ⟨σ', H', J', q⟩ := q; exact wpAny_execs_nil ⟨σ', H', J'.ofTry ok, q⟩
    | brk => obtain ⟨σ', H', J', q⟩ := q; exact ⟨σ', H', J'.ofTry ok, q⟩
    | cont => obtain ⟨σ', H', J', q⟩ := q; exact ⟨σ', H', J'.ofTry ok, q⟩
end

/-- a block by a reading that is chosen when its slots and heap are known -/
theorem pss_some {X : Cx} {b : List Stmt} {ts : TS} (h : ∀ D σ H, ts D σ H → ∃ t, PSs X b t ∧ t D σ H) : PSs X b ts := ⟨fun pins s σ H D I q => by
  obtain ⟨t, p, z⟩ := h D σ H q
  exact p.run pins s σ H D I z⟩
theorem pe_some {X : Cx} {e : Expr} {te : TE} (h : ∀ σ H Q, te σ H Q → ∃ t, PE X e t ∧ t σ H Q) : PE X e te := ⟨fun pins s σ H Q I q => by
  obtain ⟨t, p, z⟩ := h σ H Q q
  exact p.run pins s σ H Q I z⟩

/-! ### a def called while an exception is handled: it raises nothing -/
structure FnW (P : Program) (w : World) (K : PySem.W.Frag) (mg : Str → Option Value) (base : Heap) (k : Nat) (f : Addr) (fd : FuncData) (ps : List Str) (sp : Sp) : Prop where
  len : ∀ vs H Q E, sp vs H Q E → vs.length = ps.length
  run : ∀ (A : Around) (outer : List Env) (s : Shared) (H : Hp) (args : Args) (us : List Value) (vs : List V) (Q : VK) (p : Addr × Obj), L2H.RoomH k A → L2H.PinOk outer H s p → Env0 P w K mg base A outer s H → BindsTo s fd args (ps.zip us) → Vals vs us → sp vs H Q E0 →
    codeAny (model P w) A (.call (.ref f) args) (CR CX0 outer P w H s Q E0) s
section
variable {P : Program} {w : World} {K : PySem.W.Frag} {mg : Str → Option Value} {base : Heap} {x qual : Str} {params : Arguments} {body : List Stmt} {scope : Scope} {dvs : List V} {kws : List (Str × V)} {f : Addr} {fd : FuncData}
theorem fnW_of {N ps : List Str} {k : Nat} {sp : Sp} (F : FunD K x qual params body scope dvs kws f fd) (S : FnScope N ps scope) (len : ∀ vs H Q E, sp vs H Q E → vs.length = ps.length)
    (hbody : ∀ (cdv : Value) (A : Around) (outer : List Env) (s : Shared) (H : Hp) (vs : List V) (Q : VK) (p : Addr × Obj), L2H.RoomH k (A.deeper (envOfC qual scope s.heap.objs.size f cdv)) → sp vs H Q E0 →
      ∃ t, PSs (L2H.cxH CX0 P w K mg base N qual scope f cdv A outer s H E0 p) body t ∧ t { nx := fun _ H' => Q .non H', rt := Q } (L2.start N vs) H) : FnW P w K mg base (k + 1) f fd ps sp := by
  obtain ⟨oc, od, dV, kV, doc, pm, an, cdv, ct, osl, rfl, lk, cd, _, _⟩ := F.ex
  refine ⟨len, fun A outer s H args us vs Q p room pin env bd rel told => ?_⟩
  have ln := len _ _ _ _ told
  have KX : K.In s.heap := env.mod.kin.keeps fun b o e => (env.bs b o e).1
  have kinds : ∀ y ∈ ps.zip us, scope.names.lookup y.1 = some .local ∨ (scope.names.lookup y.1 = some .cell ∧ ((cellsFrom (s.heap.objs.size + 1) scope.names []).lookup y.1).isSome = true) := fun ⟨m, v⟩ hy =>
    (S.par m (List.of_mem_zip hy).1).imp id fun q => ⟨q, PySem.W.cellsFrom_some _ _ _ (.inl q)⟩
  refine codeAny_call_function room.depth (KX _ _ lk) rfl S.co S.gen rfl (PySem.W.codeRec_of KX cd) (bd _ _ _ _ ?_)
  refine wpAny_newFunctionEnv_cells S.kind kinds fun en he s1 inC => ?_
  subst he
  refine ⟨(env.mod.nolimit.keeps fun b o e => (env.bs b o e).1).keeps inC.toInCall.keep, codeAny_func ?_⟩
  obtain ⟨t, ht, hq⟩ := hbody cdv A outer s H vs Q p (room.deeper _) told
  have I0 := L2H.inv_startH (CX := CX0) (E := E0) S pin env ln rel inC
  refine wpAny_mono (ht.run [] s1 (L2.start N vs) H _ I0 hq) (fun fl s' hs => ?_) fun e s' hs => hs
  cases fl with
  | ret u =>
    obtain ⟨v, σ', H', J, rv, q⟩ := hs
    exact ⟨v, H', J.os, J.bare, J.base, J.hok, rv, q⟩
  | next =>
    obtain ⟨σ', H', J, q⟩ := hs
    exact ⟨V.non, H', J.os, J.bare, J.base, J.hok, rfl, q⟩
  | brk => obtain ⟨_, _, _, q⟩ := hs; exact q.elim
  | cont => obtain ⟨_, _, _, q⟩ := hs; exact q.elim
/-- told() of one text, there -/
theorem told_okW {t : Str} {j : Nat} {p p2 : Pos} (F : FunD K "told" qual params [.Return (some (.Constant (.str t) j p)) p2] scope [] [] f fd) (S : FnScope ["self"] ["self"] scope) : FnW P w K mg base 1 f fd ["self"] (spTold t) := by
  refine fnW_of F S (fun vs H Q E h => ?_) (fun cdv A outer s H vs Q pp hr h => ?_)
  · obtain ⟨v, rfl, _⟩ := h
    rfl
  · obtain ⟨v, rfl, q⟩ := h
    exact ⟨_, pss_one (ps_ret pe_str), q⟩
end
section
variable {X : Cx} {a C f : Addr} {o1 : Obj} {pn : List (Addr × Obj)} {d : Option Addr} {m : Str} {fd : FuncData} {sp : Sp} {k : Nat}
/-- the caught error as an instance -/
theorem caught_inst {pins : List (Addr × Obj)} {σ : L2.St} {H : Hp} {s : Shared} (I : Inv (X.suite a ((a, o1) :: pn)) pins σ H s) (z : Zc (.ref C) d o1) (fl : ∃ vs, o1.data = .fields vs) (hd : ∀ dx, d = some dx → ∃ fs, H dx = some (exd dx fs) ∧ fs.lookup m = none) :
    ∃ od, PySem.W.InstAt s.heap a o1 C od ∧ PySem.W.shadowIn od m = some false := by
  obtain ⟨g, _⟩ := I.pin (a, o1) (List.mem_append_left _ List.mem_cons_self)
  obtain ⟨vs, hv⟩ := fl
  have nc : PySem.W.notCls o1 = true := by unfold PySem.W.notCls; rw [hv] <;> rfl
  cases d with
  | none => exact ⟨none, ⟨g, z.1, nc, by rw [z.2]; trivial⟩, rfl⟩
  | some dx =>
    obtain ⟨fs, e, lk⟩ := hd dx rfl
    obtain ⟨mA, ns, rel⟩ := exd_at I.hok e
    obtain ⟨od, h2, hk⟩ := lookIn_ns ns
    refine ⟨some od, ⟨g, z.1, nc, by rw [z.2]; exact h2⟩, ?_⟩
    have hm : mA m = none := by
      have r := rel m
      rw [lk] at r
      cases y : mA m with
      | none => rfl
      | some v => rw [y] at r; exact r.elim
    show (PySem.W.lookIn m od).map _ = _
    rw [hk, hm]
    rfl
def tToldC (a : Addr) (d : Option Addr) (m : Str) (sp : Sp) (te : TE) : TE := fun σ H Q => te σ H fun x H1 => x = .ref a ∧ (∀ dx, d = some dx → ∃ fs, H1 dx = some (exd dx fs) ∧ fs.lookup m = none) ∧ sp [.ref a] H1 Q E0
/-- e.m() of the caught error e -/
theorem pe_toldC {o : Expr} {te : TE} {pos apos : Pos} {pl : Sem Bool} (T : IsC X.K C) (M : Meth X.K C m f) (F : FnW X.prog X.w X.K X.mg X.base k f fd ["self"] sp) (hb : L2.Binds X.K fd ["self"] []) (hr : L2H.RoomH k X.A) (z : Zc (.ref C) d o1) (fl : ∃ vs, o1.data = .fields vs)
    (he : PE (X.suite a ((a, o1) :: pn)) o te)
    (ht : eval (.Call (.Attribute o m apos) [] [] pos) X.env = (do
      let ov ← eval o X.env
      standAt apos.atName
      let (f, first) ← holding [ov] (getMethod ov m pl)
      callWith pos f first (backTo pos (starEach [] X.env)) (backToKw pos (keywordEach [] X.env))) := by rfl) :
    PE (X.suite a ((a, o1) :: pn)) (.Call (.Attribute o m apos) [] [] pos) (tToldC a d m sp te) := by
  refine ⟨fun pins s σ H Q I h => ?_⟩
  refine PySem.W.methodCall_KW (pl := pl) (thn (he.run pins s σ H _ I h) fun u s1 hh => ?_) ht
  obtain ⟨x, H1, I1, rx, rfl, hd, q⟩ := hh
  obtain rfl : u = Value.ref a := rx
  obtain ⟨mm, fr⟩ := I1.fr
  obtain ⟨od, J, sh⟩ := caught_inst I1 z fl hd
  refine PySem.W.method_exc fr I1.ok.mod.kin J T.ga T.gg M.at_ M.fn sh (PySem.W.callWith_K0 (first := [.ref a]) I1.kIn M.kp ?_)
  have pin := I1.pin (a, o1) (List.mem_append_left _ List.mem_cons_self)
  have pk : L2H.PinOk (X.suite a ((a, o1) :: pn)).stack H1 s1 (a, o1) := ⟨pin.1, pin.2.1, fun hm => (List.mem_cons.mp (I1.stkSub _ hm)).elim pin.2.2.1 pin.2.2.2.1, pin.2.2.2.2⟩
  have room : L2H.RoomH k (X.suite a ((a, o1) :: pn)).A := ⟨hr.dp, hr.un⟩
  have bd := hb s1 [.ref a] I1.kIn rfl
  refine wpAny_call (codeAny_mono (F.run _ _ s1 H1 ⟨[.ref a], []⟩ [.ref a] [.ref a] Q (a, o1) room pk I1.env0 (by simpa using bd) (.cons rfl .nil) q) fun r s' hq => ?_)
  cases r with
  | error e => exact (show False from hq).elim
  | ok fl' =>
    cases fl' with
    | ret u => exact I1.after hq
    | next => exact hq.elim
    | brk => exact hq.elim
    | cont => exact hq.elim
/-- isinstance(e, c), e the caught error -/
def rIsC (K : PySem.W.Frag) (a C : Addr) (d : Option Addr) : List V → Hp → VK → Prop := fun xs H Q => ∃ (c : V) (cv : Value) (b : Bool),
  xs = [.ref a, c] ∧ ClsV c cv ∧ (∀ dx, d = some dx → ∃ fs, H dx = some (exd dx fs) ∧ fs.lookup ("__class__" : Str) = none) ∧ PySem.W.kitOne K (.ref C) cv = some b ∧ Q (.bl b) H
theorem call_isC (T : IsC X.K C) (z : Zc (.ref C) d o1) (fl : ∃ vs, o1.data = .fields vs) : CallR (X.suite a ((a, o1) :: pn)) (.builtin "isinstance") (rIsC X.K a C d) := by
  intro pins s σ H xs us Q I r h
  obtain ⟨c, cv, b, rfl, k, hd, e, q⟩ := h
  obtain ⟨u1, u2, rfl, r1, r2⟩ := vals2 r
  obtain rfl := k.eq r2
  obtain rfl : u1 = Value.ref a := r1
  obtain ⟨od, J, _⟩ := caught_inst I z fl hd
  exact PySem.W.kia_one (PySem.W.kitx_exc (od := od) T.cl T.ga T.gg T.sb T.ca T.sg T.tk T.ob) I.kIn J e (fun z => nomatch z)
    fun tk => ⟨.bl b, H, I.kept (t' := tk) fun _ _ z => z, rfl, q⟩
end
end Lf

set_option Elab.async false
set_option linter.all false
set_option maxRecDepth 100000
set_option maxHeartbeats 4000000
/-! raise X(e) of an own class with its __init__; try with clauses of which any may have `as`; repr of data. -/
namespace Lf
open PySem PySem.Spec PyProof.Rows L2
/-- raise X(e) -/
def tMk1 (C : Addr) (fl : Str) (ta : TE) : L2.St → Hp → XK → Prop := fun σ H Q => ta σ H fun v H1 => ∀ d H', H1 d = none → Same H1 H' → H' d = some (.xd [(fl, v)]) → Q (.ref C) (some d) H'
theorem pmk_err1 {X : Cx} {x fl t : Str} {e : Expr} {ta : TE} {p pos : Pos} (E : Err1 X.prog X.w X.K X.mg X.base x fl t) (hr : Room 2 X.A) (hg : Gl X x) (ha : PE X e ta)
    (hdb : (x == ("__debug__" : Str)) = false := by decide) (hs : starEach [e] X.env = (false, eval e X.env) :: starEach [] X.env := by rfl) :
    PMk X (.Call (.Name x p) [e] [] pos) (tMk1 (He.ga X.K x) fl ta) := by
  obtain ⟨fI, fd, i1, i2, F, b⟩ := E.ini
  have M := pmk_oex (X := X) (pos := pos) (p := p) (dvs := []) E.c.o i1 i2 F hr b .nil pass0 hg E.g (pa_cons (PE.up ha) pa_nil hs) hdb hs rfl
  intro pins s σ H Q I h
  refine M pins s σ H Q I ?_
  refine ⟨_, h, fun v H1 k => ⟨(by show 1 ≤ 1000; decide), fun a na => ⟨a, v, rfl, upd_same, fun d nd ne => ?_⟩⟩⟩
  have nd1 : H1 d = none := by rw [upd_ne ne] at nd; exact nd
  refine ⟨rfl, d, [(fl, v)], upd_same, by rw [upd_ne ne]; exact upd_same, nd1, ?_⟩
  refine k d _ nd1 (fun b o q => ?_) upd_same
  have n1 := ne_of_none q na
  have n2 := ne_of_none q nd1
  rw [upd_ne n2, del_ne n1, upd_ne n1, upd_ne n2, upd_ne n1]
  exact q
/-! ### clauses, with a name or without -/
abbrev Cl := Value × Option Nat × (Addr → Value → Option Addr → TS)
def asEnds (i : Nat) (D : Ends) : Ends := ⟨fun σ' H' => D.nx (σ'.set i none) H', D.rt, fun σ' H' => D.bk (σ'.set i none) H', fun σ' H' => D.ct (σ'.set i none) H'⟩
def wA (K : PySem.W.Frag) (Wout : WX) (D : Ends) : List Cl → WX
  | [] => Wout
  | (c, none, ts) :: r => fun cls d σ H => ∃ b, PySem.W.exmOne K cls c = some b ∧ (b = true → ∀ a, H a = none → ts a cls d D σ H) ∧ (b = false → wA K Wout D r cls d σ H)
  | (c, some i, ts) :: r => fun cls d σ H => ∃ b, PySem.W.exmOne K cls c = some b ∧ (b = true → ∀ a, H a = none → ts a cls d (asEnds i D) (σ.set i (some (.ref a))) H) ∧ (b = false → wA K Wout D r cls d σ H)
inductive HdA (X : Cx) : List ExceptHandler → List Cl → Prop
  | nil : HdA X [] []
  | plain {x : Str} {c : Value} {ts : Addr → Value → Option Addr → TS} {b1 : Stmt} {suite : List Stmt} {np p3 : Pos} {hds : List ExceptHandler} {l : List Cl} (nm : Names X x c)
      (hsu : ∀ (a : Addr) (o : Obj) (cls : Value) (d : Option Addr) (pn : List (Addr × Obj)), Zc cls d o → (∃ vs, o.data = .fields vs) → PSs (X.suite a ((a, o) :: pn)) (b1 :: suite) (ts a cls d)) (r : HdA X hds l) :
      HdA X (.ExceptHandler (some (.Name x np)) none (b1 :: suite) p3 :: hds) ((c, none, ts) :: l)
  | as {x n : Str} {c : Value} {i : Nat} {ts : Addr → Value → Option Addr → TS} {b1 : Stmt} {suite : List Stmt} {np p3 : Pos} {hds : List ExceptHandler} {l : List Cl} (nm : Names X x c) (ni : X.N[i]? = some n) (kd : X.env.kindOf n = some .local)
      (hsu : ∀ (a : Addr) (o : Obj) (cls : Value) (d : Option Addr) (pn : List (Addr × Obj)), Zc cls d o → (∃ vs, o.data = .fields vs) → PSs (X.suite a ((a, o) :: pn)) (b1 :: suite) (ts a cls d)) (r : HdA X hds l) :
      HdA X (.ExceptHandler (some (.Name x np)) (some n) (b1 :: suite) p3 :: hds) ((c, some i, ts) :: l)
section
variable {X : Cx} {body : List Stmt} {h0 : ExceptHandler} {hds : List ExceptHandler} {l : List Cl} {pos : Pos} {tb : WX → TS} {Wout : WX}
theorem ps_tryA (st : X.stack = X.env :: X.outer) (fr : X.env.frame = some X.env.locals) (nd : X.N.Nodup) (tk : Takes X Wout)
    (inner : ∀ (W : WX) (pn : List (Addr × Obj)) (xe : Value → Shared → Prop), Takes (X.tr pn xe) W → PassesOwn (model X.prog X.w) X.A X.env xe → PSs (X.tr pn xe) body (tb W))
    (hh : HdA X (h0 :: hds) l) : PS X (.Try body (h0 :: hds) [] [] pos) (fun D σ H => tb (wLen X.N.length (wA X.K Wout D l)) D σ H) := by
  refine ⟨fun pins s σ H D I0 h => ?_⟩
  have ok := I0.ok
  have fa : X.A.frames = some (X.env :: X.outer) := by rw [ok.frames, st]
  refine wpAny_Try_except ?_
  refine wpAny_mono ((inner (wLen X.N.length (wA X.K Wout D l)) (X.pn ++ pins) (fun e s1 => wpAny (model X.prog X.w) X.A (noteFrame e X.env) (fun _ s2 => wpAny (model X.prog X.w) X.A (setFlight e none) (fun _ s3 =>
    wpAny (model X.prog X.w) X.A (handleBy e X.env (h0 :: hds)) (SP X pins D) X.xe s3) X.xe s2) X.xe s1) (fun u s' q => ?_) PassesOwn.looking).run [] s σ H D (I0.toTry _) h) (fun f s1 q => ?_) (fun e s1 q => q)
  · obtain ⟨a, B, sI, pins', σ', H', cls, d, rfl, J', nb, up, sky, na, os, ag, w⟩ := q
    have J0 : Inv X pins σ' H' sI := J'.ofTry ok
    have sk : Sky B (X.env :: X.outer) a (Zc cls d) X.env.locals s'.heap := by rw [← st]; exact sky
    show wpAny (model X.prog X.w) X.A (noteFrame (.ref a) X.env) _ _ _
    refine Sky.land Zc.steady fa fr sk fun h1 g1 u1 => ?_
    have J1 : Inv X pins σ' H' { s' with heap := h1 } := J0.landed nb g1.1 (up.trans u1) os ag
    obtain ⟨o1, v1, e1, z1, d1⟩ := g1.there
    have off : a ∉ frs (X.env :: X.outer) := fun hm => by
      obtain ⟨_, o', e', nf⟩ := g1.2.2.1.mem hm
      rw [e1] at e'
      cases e'
      exact nf _ d1
    have nL : a ≠ X.env.locals := fun z => off (List.mem_filterMap.mpr ⟨X.env, List.mem_cons_self, by rw [fr, z]⟩)
    have nF : a ∉ X.fs := fun hm => by
      obtain ⟨e, he, q⟩ := List.mem_filterMap.mp hm
      exact off (List.mem_filterMap.mpr ⟨e, List.mem_cons_of_mem _ he, q⟩)
    have S1 := J1.suite e1 d1 na nL nF
    have L1 : PySem.W.Looks (model X.prog X.w) h1 (typeOf (.ref a)) cls := fun A Q E s k q => wpAny_typeOf_ref (k _ _ e1) (by rw [z1.1]; exact q)
    have asks : ∀ {y : Str} {cv : Value} {yp : Pos} {Q : Value → Shared → Prop} {E : Value → Shared → Prop}, Names X y cv → Q cv { s' with heap := h1 } → wpAny (model X.prog X.w) (X.A.mark (some (.ref a))) (eval (.Name y yp) X.env) Q E { s' with heap := h1 } := fun {y cv yp Q E} nm q => by
      obtain ⟨hg, hb, hm | ⟨hm, hv, hn⟩⟩ := nm
      · exact ld_glob (X := X.suite a ((a, o1) :: (X.pn ++ pins))) S1 hg hm q hb
      · exact ld_blt (X := X.suite a ((a, o1) :: (X.pn ++ pins))) S1 hg hm hv q hn hb
    have rest : ∀ {hs : List ExceptHandler} {l' : List Cl}, HdA X hs l' → wA X.K Wout D l' cls d σ' H' →
        wpAny (model X.prog X.w) X.A (handleBy (.ref a) X.env hs) (SP X pins D) X.xe { s' with heap := h1 } := by
      intro hs l' hk
      induction hk with
      | nil =>
        intro w
        refine wpAny_handleBy_nil ?_
        obtain ⟨k1, k2, k3, oe, vs, T, oT, ts', he, hz, hd, f1, hr⟩ := id g1
        unfold PySem.passOn
        refine wpAny_bind (wpAny_field he hd f1 ?_)
        rw [if_neg (show ¬ ((Value.ref T == Value.none) = true) from by simp)]
        have out : wpAny (model X.prog X.w) X.A (setFlight (.ref a) X.env.frame) (fun _ s4 => wpAny (model X.prog X.w) X.A (throw (.ref a) : Sem Flow) (SP X pins D) X.xe s4) X.xe { s' with heap := h1 } := by
          rw [fr]
          exact HandSPX.setFlight_upZ g1 fun h2 b2 u2 => wpAny_throw (tk _ _ ⟨a, B, sI, pins, σ', H', cls, d, rfl, J0, nb, (up.trans u1).trans u2, .inr (.inr (by rw [st]; exact b2)), na, os, ag, w⟩)
        first
          | exact wpAny_bind (wpAny_pure (wpAny_bind out))
          | exact wpAny_bind out
      | @plain y cv ts2 c1 suite2 yp p4 more2 l2 nm2 hsu r ih =>
        intro w
        obtain ⟨b, hb1, yes, no⟩ := w
        refine wpAny_handleBy_cons (codeAny_handlers_test ?_) (by intro q; cases q)
        refine asks nm2 ((PySem.W.exm_one (M := model X.prog X.w) J1.kIn L1 hb1).here ?_)
        cases b with
        | true =>
          refine codeAny_handlers_suite ?_
          refine HandSPX.lands_againZ g1 fun h2 g2 u2 => ?_
          have J2 : Inv X pins σ' H' { s' with heap := h2 } := J0.landed nb g2.1 ((up.trans u1).trans u2) os ag
          obtain ⟨o2, v2, e2, z2, d2⟩ := g2.there
          refine wpAny_mono ((hsu a o2 cls d (X.pn ++ pins) z2 ⟨_, d2⟩).run [] _ _ H' _ (J2.suite e2 d2 na nL nF) (yes rfl a na)) (fun f s6 q => ?_) (fun _ _ z => False.elim z)
          cases f with
          | ret u =>
            obtain ⟨v6, σ6, H6, S6, r6, q6⟩ := q
            exact ⟨_, _, _, S6.unsuite ok, r6, q6⟩
          | next => obtain ⟨σ6, H6, S6, q6⟩ := q; exact ⟨_, _, S6.unsuite ok, q6⟩
          | brk => obtain ⟨σ6, H6, S6, q6⟩ := q; exact ⟨_, _, S6.unsuite ok, q6⟩
          | cont => obtain ⟨σ6, H6, S6, q6⟩ := q; exact ⟨_, _, S6.unsuite ok, q6⟩
        | false =>
          show wpAny _ X.A (handleBy (.ref a) X.env more2) _ _ _
          exact ih (no rfl)
      | @as y n cv i ts2 c1 suite2 yp p4 more2 l2 nm2 ni kd hsu r ih =>
        intro w
        obtain ⟨b, hb1, yes, no⟩ := w
        refine wpAny_handleBy_cons (codeAny_handlers_test ?_) (by intro q; cases q)
        refine asks nm2 ((PySem.W.exm_one (M := model X.prog X.w) J1.kIn L1 hb1).here ?_)
        cases b with
        | false =>
          show wpAny _ X.A (handleBy (.ref a) X.env more2) _ _ _
          exact ih (no rfl)
        | true =>
          refine codeAny_handlers_suite_as ?_
          refine HandSPX.lands_againZ g1 fun h2 g2 u2 => ?_
          have J2 : Inv X pins σ' H' { s' with heap := h2 } := J0.landed nb g2.1 ((up.trans u1).trans u2) os ag
          obtain ⟨o2, v2, e2, z2, d2⟩ := g2.there
          have lc : Loc X.env.scope n := .inl kd
          refine store_ok (X := X.suite a ((a, o2) :: (X.pn ++ pins))) (v := .ref a) (J2.suite e2 d2 na nL nF) nd ni lc rfl (fun s5 S5 => ?_) (.inr kd)
          refine wpAny_mono ((hsu a o2 cls d (X.pn ++ pins) z2 ⟨_, d2⟩).run [] s5 _ H' _ S5 (yes rfl a na)) (fun f s6 q => ?_) (fun _ _ z => False.elim z)
          have gone : ∀ {σ6 : L2.St} {H6 : Hp} {Q : Shared → Prop}, Inv (X.suite a ((a, o2) :: (X.pn ++ pins))) [] σ6 H6 s6 → (∀ s7, Inv X pins (σ6.set i none) H6 s7 → Q s7) →
              wpAny (model X.prog X.w) X.A (do bindName X.env n .none; unbindBehindTheSuite X.env n p4) (fun _ s7 => Q s7) X.xe s6 := fun {σ6 H6 Q} S6 hq => gone_ok (S6.unsuite ok) nd ni kd hq
          cases f with
          | ret u =>
            obtain ⟨v6, σ6, H6, S6, r6, q6⟩ := q
            exact gone S6 fun s7 J7 => ⟨_, _, _, J7, r6, q6⟩
          | next => obtain ⟨σ6, H6, S6, q6⟩ := q; exact gone S6 fun s7 J7 => ⟨_, _, J7, q6⟩
          | brk => obtain ⟨σ6, H6, S6, q6⟩ := q; exact gone S6 fun s7 J7 => ⟨_, _, J7, q6⟩
          | cont => obtain ⟨σ6, H6, S6, q6⟩ := q; exact gone S6 fun s7 J7 => ⟨_, _, J7, q6⟩
    exact rest hh (w J0.len)
  · cases f with
    | ret u =>
      obtain ⟨v, σ', H', J', r, q⟩ := q
      exact ⟨v, σ', H', J'.ofTry ok, r, q⟩
    | next => obtain ⟨σ', H', J', q⟩ := q; exact wpAny_execs_nil ⟨σ', H', J'.ofTry ok, q⟩
    | brk => obtain ⟨σ', H', J', q⟩ := q; exact ⟨σ', H', J'.ofTry ok, q⟩
    | cont => obtain ⟨σ', H', J', q⟩ := q; exact ⟨σ', H', J'.ofTry ok, q⟩
end
/-! ### repr of data -/
theorem call_reprD {X : Cx} (hg : X.A.guards = some []) (hu : X.A.units + 9 < cLine) : CallR X (.builtin "repr") (fun xs H Q => ∃ v d, xs = [v] ∧ Dp X.K H v d ∧ d.showable = true ∧ d.hasDict = false ∧ d.depth ≤ 7 ∧ d.shown.length ≤ sizeLine ∧ Q (.str d.shown) H) := by
  intro pins s σ H xs us Q I r h
  obtain ⟨v, d, rfl, hd, sh, nd, dp, hz, q⟩ := h
  obtain ⟨u, rfl, rv⟩ := vals1 r
  obtain ⟨as, rd⟩ := Dp.reads I d v u hd rv
  cases rd with
  | none => exact P.repr_of_none ⟨.str "None", H, I.tok _, ⟨_, rfl⟩, q⟩
  | bool b =>
    refine P.repr_of_bool ⟨.str _, H, I.tok _, ⟨_, rfl⟩, ?_⟩
    exact q
  | int i t =>
    refine P.repr_of_int (by simpa [PyData.showable] using sh) ⟨.str _, H, I.tok _, ⟨_, rfl⟩, ?_⟩
    exact q
  | str x t =>
    refine P.repr_of_str ⟨.str _, H, I.tok _, ⟨_, rfl⟩, ?_⟩ hz
    exact q
  | list h1 h2 h3 h4 =>
    refine repr_of_reads' (h₀ := s.heap) (.list h1 h2 h3 h4) sh (fun z => by rw [nd] at z; cases z) hg (by omega) (fun _ _ z => z) (fun h' u tk hk => ?_) hz
    exact ⟨.str _, H, I.kept hk, ⟨u, rfl⟩, q⟩
  | tuple h1 h2 h3 h4 =>
    refine repr_of_reads' (h₀ := s.heap) (.tuple h1 h2 h3 h4) sh (fun z => by rw [nd] at z; cases z) hg (by omega) (fun _ _ z => z) (fun h' u tk hk => ?_) hz
    exact ⟨.str _, H, I.kept hk, ⟨u, rfl⟩, q⟩
  | dict h1 h2 h3 h4 h5 => rw [PyData.hasDict] at nd; cases nd
end Lf

set_option Elab.async false
set_option linter.all false
set_option maxRecDepth 100000
set_option maxHeartbeats 8000000
/-! What repr tells of tuples of numbers. -/
namespace Lf
open PySem PySem.Spec PyProof.Rows L2
theorem text2000 : ∀ n : Nat, n < 2001 → ((PyData.int (n : Nat)).shown).length ≤ 4 := by decide +kernel
theorem show2000 : ∀ n : Nat, n < 2001 → (PyData.int (n : Nat)).showable = true := by decide +kernel
theorem repr2000 : ∀ {x : List Nat}, (∀ n ∈ x, n < 2001) → PyData.showableAll (x.map dN) = true ∧ ((PyData.shownAll (x.map dN)).map (·.length)).sum ≤ 4 * x.length ∧ (PyData.shownAll (x.map dN)).length = x.length ∧ PyData.hasDictAll (x.map dN) = false ∧ PyData.depthAll (x.map dN) = 0
  | [], _ => ⟨rfl, Nat.le_refl _, rfl, rfl, rfl⟩
  | n :: x, h => by
    obtain ⟨a, b, c, d, e⟩ := repr2000 (x := x) fun m hm => h m (List.mem_cons_of_mem _ hm)
    have h1 := text2000 n (h n List.mem_cons_self)
    have h2 := show2000 n (h n List.mem_cons_self)
    rw [List.map_cons]
    refine ⟨?_, ?_, ?_, ?_, ?_⟩
    · show (PyData.showable (.int ((n : Nat) : Int)) && _) = true
      rw [h2, a]
      rfl
    · show ((PyData.int ((n : Nat) : Int)).shown :: PyData.shownAll (x.map dN) |>.map (·.length)).sum ≤ _
      rw [List.map_cons, List.sum_cons, List.length_cons]
      omega
    · show ((PyData.int ((n : Nat) : Int)).shown :: PyData.shownAll (x.map dN)).length = _
      rw [List.length_cons, c, List.length_cons]
    · show (PyData.hasDict (.int ((n : Nat) : Int)) || _) = false
      rw [d]
      rfl
    · show max (PyData.depth (.int ((n : Nat) : Int))) _ = 0
      rw [e]
      rfl
/-- for repr of a tuple of numbers -/
theorem repr_dI {x : List Nat} (h : ∀ n ∈ x, n < 2001) (l : x.length ≤ 2001) : (dI x).showable = true ∧ (dI x).hasDict = false ∧ (dI x).depth ≤ 7 ∧ (dI x).shown.length ≤ sizeLine := by
  obtain ⟨a, b, c, d, e⟩ := repr2000 h
  refine ⟨by unfold dI; rw [PyData.showable]; exact a, by unfold dI; rw [PyData.hasDict]; exact d, by unfold dI; rw [PyData.depth]; omega, ?_⟩
  have := tupleText_len_le (PyData.shownAll (x.map dN))
  unfold dI
  rw [PyData.shown, sizeLine_eq]
  omega
end Lf

set_option Elab.async false
set_option linter.all false
set_option maxRecDepth 100000
set_option maxHeartbeats 8000000
namespace K16
open PySem PySem.Spec PyProof.Rows L2 Lf
theorem mo_neD {P : Program} {w : World} {K : PySem.W.Frag} {mg : Str → Option Value} {base : Heap} (T : Txt P w K mg base) {H : Hp} {a b : Addr} {rows rows' : List (List Nat)} {m m' : List (Nat × Nat)} {Q : VK} (ha : Mo K H a rows m) (hb : Mo K H b rows' m') (k : Q (.bl (!decide (rows = rows'))) H) :
    rOwnNe K (He.ga K "Monoid") (spEq K) E0 (.ref a) (.ref b) H Q := by
  have cl : L2.Cls K (He.ga K "Monoid") := He.cls_ok (T.d.fact 49 (f := .cls "Monoid") rfl)
  obtain ⟨dx, t, u, v, e1, _⟩ := id ha.ex
  obtain ⟨dy, t', u', v', e2, _⟩ := id hb.ex
  exact ⟨a, dx, _, _, rfl, e1, (T.own (x := "Monoid") (by decide)).ty cl e2, (T.ops (x := "Monoid") (by decide)).notFirst (List.mem_map.mpr ⟨"Monoid", by decide, rfl⟩), a, b, rows, rows', m, m', rfl, ha, hb, _, rfl, k⟩
/-- rows of tuples in a list -/
theorem dp_lt {K : PySem.W.Frag} {H : Hp} {p : Addr} {as : List Addr} {rows : List (List Nat)} (h : H p = some (.lst (as.map V.ref))) (l : as.length = rows.length) (e : ∀ (j : Nat) a x, as[j]? = some a → rows[j]? = some x → H a = some (.tup (x.map nv))) : Dp K H (.ref p) (.list (rows.map dI)) :=
  .lst (SqL.of h) (dpR l fun j a x h1 h2 => SqT.of (e j a x h1 h2))
theorem dp_nums {K : PySem.W.Frag} {H : Hp} {p : Addr} {x : List Nat} (h : H p = some (.lst (x.map nv))) : Dp K H (.ref p) (.list (x.map dN)) := .lst (SqL.of h) dpN
theorem tcb1 {r : List V → Hp → VK → Prop} {te : TE} {σ : L2.St} {H : Hp} {Q : VK} (h : te σ H fun x H1 => r [x] H1 Q) : tCB r (tCons te tNil) σ H Q := h
abbrev NRi : List Str := ["_law_source_here", "_law_rows", "_law_found", "_law_words", "_law_table_here", "_law_monoid", "_law_others", "_law_turned_table", "_law_other", "_law_turned", "_law_due", "_law_back", "_law_word", "_law_images", "_law_row", "_law_number", "_law_y"]
abbrev teIdx (K : PySem.W.Frag) : TE := tBM K "list" (rIndexD K) (tVar 6) (tCons (tVar 13) tNil)
abbrev teTR (K : PySem.W.Frag) : TE := tCB (rTup K) (tCons (tVar 14) tNil)
abbrev teBk (K : PySem.W.Frag) : TE := tOp (rIxT K) (tVar 11) (tVar 15)
abbrev teTy (K : PySem.W.Frag) : TE := tOp (rIxT K) (tVar 9) (tVar 16)
abbrev teDu (K : PySem.W.Frag) : TE := tCB (rTup K) (tCons (tLc (iTup K (tVar 14)) (gName 16) tYes (teTy K) [16]) tNil)
abbrev teLf (K : PySem.W.Frag) : TE := tOp (rIxT K) (tMeth (He.ga K "Monoid") "left" (spLeftM K) [] E0 (tVar 8) tNil) (tVar 15)
def scMidD : Scope := { kind := .function, names := [(".0", .local), ("_law_row", .local), ("tuple", .globalImplicit), ("_law_turned", .cell)], isGenerator := false, isCoroutine := false }
def spRight (K : PySem.W.Frag) : Sp := fun vs H Q _ => ∃ l c r n gens, vs = [.ref l, .ref r] ∧ Src H l c ∧ c + 60 ≤ 1000000 ∧ Maps H r gens ∧ gens ≠ [] ∧ gens.length ≤ 6 ∧ 1 ≤ n ∧ n ≤ 4 ∧ (∀ g ∈ gens, Mon.Valid n g) ∧ ∀ H', But l H H' → Src H' l (c + 60) → Q (.bl true) H'
section
variable {P : Program} {w : World} {K : PySem.W.Frag} {mg : Str → Option Value} {base : Heap}
theorem scRi : FnScope NRi ["_law_source_here", "_law_rows"] (defScope s_L_right) := ⟨rfl, rfl, rfl, by decide +kernel, rfl, by decide +kernel, by decide +kernel⟩
theorem ok_right {f : Addr} {fd : FuncData} {q : Str} (F : FunD K "_law_right" q (defArgs s_L_right) (defBody s_L_right) (defScope s_L_right) [] [] f fd) (T : Txt P w K mg base)
    (DT : Def P w K mg base CX0 1 "_law_table" ["_law_rows"] (spTable K)) (DO : Def P w K mg base CX0 1 "_law_opposite" ["_law_rows"] (spOL K)) (DPR : Def P w K mg base CX0 5 "_law_pairs_right" ["_law_source_here", "_law_monoid", "_law_other", "_law_turned"] (spPairs K))
    (MO : DefM P w K mg base CX0 7 "opposite" ["self"] (spOpp K)) (MT : DefM P w K mg base CX0 3 "turned" ["self"] (spTurned K)) (ML : DefM P w K mg base CX0 1 "left" ["self"] (spLeftM K)) (MW : DefM P w K mg base CX0 3 "of_word" ["self", "word"] (spOfW K))
    {fM : Addr} {fdM : FuncData} (mM : Mk K (He.ga K "Monoid") fM) (FM : FnOk P w K mg base CX0 4 fM fdM ["self", "right"] (spMon K)) (bM : Binds K fdM ["self", "right"] [])
    {fe : Addr} {fde : FuncData} (mE : Meth K (He.ga K "Monoid") "__eq__" fe) (FE : FnOk P w K mg base CX0 1 fe fde ["self", "other"] (spEq K)) (bE : Binds K fde ["self", "other"] []) :
    FnG P w K mg base CX0 8 f fd ["_law_source_here", "_law_rows"] (spRight K) := by
  have cl : L2.Cls K (He.ga K "Monoid") := He.cls_ok (T.d.fact 49 (f := .cls "Monoid") rfl)
  have n0 : NoAttr K (He.ga K "Monoid") "right" := He.noat_ok (T.d.fact 65 (f := .noat "Monoid" "right") rfl)
  have zr : mg "range" = none := T.fr 44 "range" rfl
  have zn : mg "len" = none := T.fr 42 "len" rfl
  have zl : mg "list" = none := T.fr 43 "list" rfl
  have zt : mg "tuple" = none := T.fr 47 "tuple" rfl
  have zR : mg "repr" = none := T.fr 45 "repr" rfl
  have oe : OwnEq K (He.ga K "Monoid") fe := (T.ops (x := "Monoid") (by decide)).eq mE
  obtain ⟨fo, fdo, mo_, Fo, bo⟩ := MO.ex
  obtain ⟨ft, fdt, mt_, Ft, bt⟩ := MT.ex
  obtain ⟨fl, fdl, ml_, Fl, bl⟩ := ML.ex
  obtain ⟨fw, fdw, mw_, Fw, bw⟩ := MW.ex
  refine okG F scRi (fun vs H Q E h => ?_) (fun cdv A outer s H vs Q E hgd hr h => ?_)
  · obtain ⟨l, c, r, n, gens, rfl, _⟩ := h
    rfl
  · obtain ⟨l, c, r, n, gens, rfl, src, c1, MP, ne, g6, n1, n4, gv, fin⟩ := h
    have R1 : Room 1 _ := hr.mono (by decide)
    have R2 : Room 2 _ := hr.mono (by decide)
    have R3 : Room 3 _ := hr.mono (by decide)
    have R4 : Room 4 _ := hr.mono (by decide)
    have R5 : Room 5 _ := hr.mono (by decide)
    have hu : (A.deeper (envOfC q (defScope s_L_right) s.heap.objs.size f cdv)).units + 64 < cLine := hr.units
    have hu9 : (A.deeper (envOfC q (defScope s_L_right) s.heap.objs.size f cdv)).units + 9 < cLine := by omega
    have hu65 : (A.deeper (envOfC q (defScope s_L_right) s.heap.objs.size f cdv)).units + 65 < cLine := by have := hr.un; omega
    refine ⟨_, PSs.nox (pss_cons (ps_asg (pe_def DT R1 pass0 rfl (pa_cons (pv 1) pa_nil)) (pg_tup rfl (pgs_cons (pg_name (i := 2) scRi.nd rfl (.inl rfl)) (pgs_cons (pg_name (i := 3) scRi.nd rfl (.inl rfl)) (pgs_cons (pg_name (i := 4) scRi.nd rfl (.inl rfl)) pgs_nil)))))
      (pss_cons (ps_set (i := 5) scRi.nd rfl (.inl rfl) (pe_make mM FM R5 rfl (T.gl 4 "Monoid" rfl) bM .nil pass0 (pa_cons (pv 4) pa_nil)))
      (pss_cons (ps_asg (pe_def DO R1 pass0 rfl (pa_cons (pv 1) pa_nil)) (pg_tup rfl (pgs_cons (pg_name (i := 6) scRi.nd rfl (.inr rfl)) (pgs_cons (pg_name (i := 7) scRi.nd rfl (.inl rfl)) pgs_nil))))
      (pss_cons (ps_asg (pe_tup (pa_cons (pe_meth0 (pv 5) cl mo_ Fo hr bo .nil pass0) (pa_cons (pe_meth0 (pv 5) cl mt_ Ft R3 bt .nil pass0) pa_nil))) (pg_tup rfl (pgs_cons (pg_name (i := 8) scRi.nd rfl (.inr rfl)) (pgs_cons (pg_name (i := 9) scRi.nd rfl (.inr rfl)) pgs_nil))))
      (pss_cons (ps_set (i := 10) scRi.nd rfl (.inl rfl) (pe_callTy call_tuple_of rfl zt PyProof.Rows.boot_tuple (pa_cons (pe_lc (own := [("_law_images", 13)]) (g := gName 13) (te := teIdx K) (by rfl) scRi.nd (pi_list (pv 2)) (blkOk_by (own := [("_law_images", 13)]) (N := NRi) (sc := defScope s_L_right) (by decide +kernel)) (fun _ _ _ _ _ => pg_name (i := 13) scRi.nd rfl (Or.inl rfl)) (fun _ _ _ _ _ => pts_nil)
          (fun _ _ _ _ _ => by exact pe_bm PySem.F.plainAttrs_list PySem.F.slot_list_index PySem.F.type_list_index (mt_indexD hu65) (pv 6) (pa_cons (pv 13) pa_nil))) pa_nil)))
      (pss_cons (ps_if (PW.pt (pw_or (pt_cmpR (op_neD hu) (pe_fld (pv 8) rfl) (pe_callTy call_tuple_of rfl zt PyProof.Rows.boot_tuple (pa_cons (pv 7) pa_nil)) (nomark _)) (pw_or1 (pt_cmpR op_ne (pe_callB (call_reprD (by exact hgd) (by exact hu9)) rfl zR boot_repr (pa_cons (pv 9) pa_nil)) (pe_callB (call_reprD (by exact hgd) (by exact hu9)) rfl zR boot_repr (pa_cons (pv 10) pa_nil)) (nomark _))))) (pss_one (ps_ret pe_bl)) pss_nil)
      (pss_cons (ps_if (PW.pt (pw_or (pt_cmpR (op_ownNe oe FE R2 bE pass0) (pe_meth0 (pv 8) cl mo_ Fo hr bo .nil pass0) (pv 5) (nomark _)) (pw_or1 (pt_cmpR (op_neD hu) (pe_fld (pv 5) rfl) (pe_callTy call_tuple_of rfl zt PyProof.Rows.boot_tuple (pa_cons (pe_lc (own := [("_law_row", 14)]) (g := gName 14) (te := teTR K) (by rfl) scRi.nd (pi_list (pv 4)) (blkOk_by (own := [("_law_row", 14)]) (N := NRi) (sc := defScope s_L_right) (by decide +kernel)) (fun _ _ _ _ _ => pg_name (i := 14) scRi.nd rfl (Or.inl rfl)) (fun _ _ _ _ _ => pts_nil)
          (fun _ _ _ _ _ => by exact pe_callTy call_tuple_of rfl zt PyProof.Rows.boot_tuple (pa_cons (pv 14) pa_nil))) pa_nil)) (nomark _))))) (pss_one (ps_ret pe_bl)) pss_nil)
      (pss_cons (ps_set (i := 11) scRi.nd rfl (.inr rfl) (pe_meth0 (pv 8) cl mt_ Ft R3 bt .nil pass0))
      (pss_cons (ps_if (PW.pt (pw_or (pt_cmpR (op_neD hu) (pe_lc (own := [("_law_number", 15)]) (g := gName 15) (te := teBk K) (by rfl) scRi.nd (pi_tup (pv 9)) (blkOk_by (own := [("_law_number", 15)]) (N := NRi) (sc := defScope s_L_right) (by decide +kernel)) (fun _ _ _ _ _ => pg_name (i := 15) scRi.nd rfl (Or.inl rfl)) (fun _ _ _ _ _ => pts_nil)
          (fun _ _ _ _ _ => by exact pe_ix ix_tup (pv 11) (pv 15) (fun _ _ => rfl))) (pe_listRg rfl rfl zl (prg_1 rfl zr (pe_callB call_len_seq rfl zn boot_len (pa_cons (pv 2) pa_nil)))) (nomark _)) (pw_or1 (pt_cmpR op_ne (pe_ix ix_tup (pv 9) pe_int (fun _ _ => rfl)) pe_int (nomark _))))) (pss_one (ps_ret pe_bl)) pss_nil)
      (pss_cons (ps_setLc (i := 10) (own := [("_law_row", 14)]) (g := gName 14) (te := teDu K) rfl scRi.nd rfl rfl (by rfl) (pi_tup (pe_fld (pv 5) rfl)) (blkOk_by (own := [("_law_row", 14)]) (N := NRi) (sc := defScope s_L_right) (by decide +kernel)) (fun _ _ _ _ _ => pg_name (i := 14) scRi.nd rfl (Or.inl rfl)) (fun _ _ _ _ _ => pts_nil)
          (fun _ _ _ _ _ => by
            refine pe_callTy call_tuple_of rfl zt PyProof.Rows.boot_tuple (pa_cons ?_ pa_nil)
            refine pe_lc (own := [("_law_y", 16)]) (g := gName 16) (te := teTy K) (by rfl) scRi.nd (pi_tup (pv 14)) (blkOk_by (own := [("_law_y", 16)]) (N := NRi) (sc := scMidD) (by decide +kernel)) (fun _ _ _ _ _ => ?_) (fun _ _ _ _ _ => pts_nil) (fun _ _ _ _ _ => ?_)
            · exact pg_name (i := 16) scRi.nd rfl (Or.inl rfl)
            · exact pe_ix ix_tup (pv 9) (pv 16) (fun _ _ => rfl)))
      (pss_cons (ps_if (pt_cmpR (op_neD hu) (pe_lc (own := [("_law_number", 15)]) (g := gName 15) (te := teLf K) (by rfl) scRi.nd (pi_tup (pv 9)) (blkOk_by (own := [("_law_number", 15)]) (N := NRi) (sc := defScope s_L_right) (by decide +kernel)) (fun _ _ _ _ _ => pg_name (i := 15) scRi.nd rfl (Or.inl rfl)) (fun _ _ _ _ _ => pts_nil)
          (fun _ _ _ _ _ => by exact pe_ix ix_tup (pe_meth0 (pv 8) cl ml_ Fl R1 bl .nil pass0) (pv 15) (fun _ _ => rfl))) (pv 10) (nomark _)) (pss_one (ps_ret pe_bl)) pss_nil)
      (pss_cons (ps_for PassesOwn.never rfl (pi_list (pe_slice sl_list (pv 3) po_none (po_some pe_int))) (pg_name (i := 12) scRi.nd rfl (.inl rfl))
        (pss_one (ps_if (pt_cmpR op_ne (pe_ix ix_tup (pv 9) (pe_meth (pv 5) cl mw_ Fw R3 bw .nil pass0 (pa_cons (pv 12) pa_nil)) (fun _ _ => rfl)) (pe_meth (pv 8) cl mw_ Fw R3 bw .nil pass0 (pa_cons (pe_revS (pv 12)) pa_nil)) (nomark _)) (pss_one (ps_ret pe_bl)) pss_nil)))
      (pss_one (ps_ret (pe_def DPR R5 pass0 rfl (pa_cons (pv 0) (pa_cons (pv 5) (pa_cons (pv 8) (pa_cons (pv 9) pa_nil))))))))))))))))))), ?_⟩
    refine ⟨_, rfl, r, n, gens, rfl, MP, ne, g6, n1, n4, gv, fun T0 pf pw pt pn as bs found rows m H1 s1 nT hT0 L TB hm lm _ => ?_⟩
    have few : found.length ≤ 256 := by
      have f1 := Mon.maps_few TB.nd TB.val
      have f2 : n ^ n ≤ 256 := by
        have : n = 1 ∨ n = 2 ∨ n = 3 ∨ n = 4 := by omega
        rcases this with rfl | rfl | rfl | rfl <;> decide
      omega
    have rl := TB.len
    have MD : Ass.Md rows gens.length m := md_accept (accept_of TB ne g6 (by omega) hm lm)
    refine ⟨T0, _, rfl, SqT.of hT0, rfl, _, _, rfl, _, _, rfl, _, _, rfl, rfl, ?_⟩
    have RT1 : RowsL K H1 pt rows := ⟨bs, SqL.of L.t, L.tl, fun j b row h1 h2 => SqL.of (L.te j b row h1 h2)⟩
    refine ⟨_, rfl, fun pm dx npm ndx xdx => mk_mon RT1 MD npm ndx xdx fun H2 s2 M2 => ?_⟩
    have s02 := s1.trans s2
    refine ⟨_, rfl, r, n, gens, found, rows, m, rfl, MP.same s02, ne, g6, n1, n4, TB, MD, few, fun T3 po pp os ps H3 s3 hT3 hpo lpo epo hpp lpp epp => ?_⟩
    refine ⟨T3, _, rfl, SqT.of hT3, rfl, _, _, rfl, _, _, rfl, rfl, ?_⟩
    have s13 := s2.trans s3
    have M3 := M2.same s3
    have L3 := L.same s13
    have s03 := s1.trans s13
    clear s02 s2 s3 M2 L hT0 hT3 RT1
    obtain ⟨m', hm'⟩ := MD.opp_made
    have MOp := MD.opp hm'
    obtain ⟨dx3, _, _, _, hp3, _⟩ := id M3.ex
    refine ⟨_, rfl, pm, dx3, _, rfl, hp3, rfl, pm, rows, _, m, m', rfl, M3, MD, hm', fun po2 H4 _ s4 M4 => ?_⟩
    refine ⟨_, rfl, pm, dx3, _, rfl, s4 _ _ hp3, rfl, pm, rows, _, m, rfl, M3.same s4, MD, fun tu H5 s5 htu => ⟨(by show 2 ≤ sizeLine; decide), fun T6 nT6 => ?_⟩⟩
    have u6 := same_upd (o := .tup [.ref po2, .ref tu]) nT6
    refine ⟨T6, _, rfl, SqT.of upd_same, rfl, _, _, rfl, _, _, rfl, rfl, ?_⟩
    have s36 := (s4.trans s5).trans u6
    have M6 := M3.same s36
    have Mo6 := M4.same (s5.trans u6)
    have tu6 := u6 _ _ htu
    have L6 := L3.same s36
    have s06 := s03.trans s36
    have hpo6 := s36 _ _ hpo
    have epo6 : ∀ (j : Nat) a x, os[j]? = some a → (Ass.O rows m)[j]? = some x → L2.upd H5 T6 (.tup [.ref po2, .ref tu]) a = some (.tup ((fdm found x).map nv)) := fun j a x h1 h2 => s36 _ _ (epo j a x h1 h2)
    have hpp6 := s36 _ _ hpp
    have epp6 : ∀ (j : Nat) b row, ps[j]? = some b → (Ass.opp rows m)[j]? = some row → L2.upd H5 T6 (.tup [.ref po2, .ref tu]) b = some (.tup (row.map nv)) := fun j a x h1 h2 => s36 _ _ (epp j a x h1 h2)
    generalize L2.upd H5 T6 (.tup [.ref po2, .ref tu]) = H6 at M6 Mo6 tu6 L6 s06 hpo6 epo6 hpp6 epp6 ⊢
    clear s36 u6 s4 s5 htu M3 M4 L3 hp3 hpo epo hpp epp s03 s13 s1
    have ool := MD.olen
    have opl := MD.opp_len
    have ond := MD.nd
    have olt : ∀ x ∈ Ass.O rows m, x < found.length := fun x hx => by rw [← rl]; exact MD.memlt hx
    have lOm : ((Ass.O rows m).map (fdm found)).length = rows.length := by rw [List.length_map, ool]
    -- where the images are among the others
    dsimp only
    show tSeq _ _ _ [some (.ref l), some (.ref r), some (.ref pf), some (.ref pw), some (.ref pt), some (.ref pm), some (.ref po), some (.ref pp), some (.ref po2), some (.ref tu), none, none, none, none, none, none, none] H6
    refine ⟨_, rfl, pf, rfl, ⟨_, SqL.of L6.f⟩, fun D nD => ?_⟩
    have nDf : pf ≠ D := fun z => by rw [← z, L6.f] at nD; cases nD
    refine lc_list (K := K) (a := pf) (xs := as.map V.ref) (fun i Hc => But D H6 Hc ∧ Hc D = some (.lst (((List.range i).map (Ass.tn rows m)).map nv))) ⟨But.upd, upd_same⟩ (fun i Hc _ ⟨b, _⟩ => SqL.of (b _ _ nDf L6.f)) (fun i z Hc hz ⟨bc, hD⟩ => ?_) (fun Hc ⟨bc, hD⟩ => ?_)
    · obtain ⟨a, ha, rfl⟩ := map_get hz
      have iN : i < rows.length := by have := get_lt ha; rw [L6.fl] at this; omega
      obtain ⟨x, hx⟩ := lt_get (show i < found.length by omega)
      have sc := Same.but (L2.Same.refl H6) nD bc
      have hk := MD.o_tn iN
      have hj : ((Ass.O rows m).map (fdm found))[Ass.tn rows m i]? = some x := by
        have := get_map (f := fdm found) hk
        rw [this]
        exact congrArg some (Mon.getD_of hx)
      obtain ⟨i1, i2, i3⟩ := index_pre (fdm_nd TB ond olt) hj
      refine ⟨rfl, yesT ?_⟩
      refine ⟨_, rfl, .inl ⟨rfl, _, SqL.of (sc _ _ hpo6)⟩, _, rfl, po, .ref a, dI x, ((Ass.O rows m).map (fdm found)).map dI, Ass.tn rows m i, dI x, rfl, rfl, ?_, dpI (SqT.of (sc _ _ (L6.fe i a x ha hx))), rows_sh _, dI_sh x, i1, i2, i3, ?_⟩
      · refine dp_lt (sc _ _ hpo6) (by rw [lOm, lpo]) fun j b y h1 h2 => ?_
        obtain ⟨k, hk, rfl⟩ := map_get h2
        exact sc _ _ (epo6 j b k h1 hk)
      · refine ⟨_, hD, by rw [List.length_map, List.length_map, List.length_range]; show i < 16777216; omega, bc.trans But.upd, ?_⟩
        rw [upd_same, List.range_succ, List.map_append, List.map_append]
        rfl
    rw [List.length_map, L6.fl, ← rl, show (List.range rows.length).map (Ass.tn rows m) = tns rows m from rfl] at hD
    have s7 := Same.but (L2.Same.refl H6) nD bc
    refine ⟨D, _, rfl, .inl ⟨SqL.of hD, fun du ndu => ?_⟩⟩
    have u8 := same_upd (o := .tup ((tns rows m).map nv)) ndu
    have hdu : L2.upd Hc du (.tup ((tns rows m).map nv)) du = some (.tup ((tns rows m).map nv)) := upd_same
    have s68 := s7.trans u8
    generalize L2.upd Hc du (.tup ((tns rows m).map nv)) = H8 at hdu s68 ⊢
    clear s7 u8 hD bc nD nDf ndu
    -- the opposite's table, and the numbers there
    dsimp only
    show tSeq _ _ _ [some (.ref l), some (.ref r), some (.ref pf), some (.ref pw), some (.ref pt), some (.ref pm), some (.ref po), some (.ref pp), some (.ref po2), some (.ref tu), some (.ref du), none, none, none, none, none, none] H8
    have Mo8 := Mo6.same s68
    have M8 := M6.same s68
    have L8 := L6.same s68
    have tu8 := s68 _ _ tu6
    have hpp8 := s68 _ _ hpp6
    have s08 := s06.trans s68
    obtain ⟨dxo, to, uo, vo, ho8, RTo8, _⟩ := id Mo8.ex
    refine ⟨_, rfl, _, _, _, _, _, rfl, ho8, cl, n0, rfl, _, rfl, pp, _, rfl, .inl ⟨SqL.of hpp8, fun tp ntp => ?_⟩⟩
    have u9 := same_upd (o := .tup (ps.map V.ref)) ntp
    have RT9 : RowsT K (L2.upd H8 tp (.tup (ps.map V.ref))) tp (Ass.opp rows m) := ⟨ps, SqT.of upd_same, by rw [lpp, opl], fun i a row h1 h2 => SqT.of (u9 _ _ (s68 _ _ (epp6 i a row h1 h2)))⟩
    generalize L2.upd H8 tp (.tup (ps.map V.ref)) = H9 at u9 RT9 ⊢
    refine ne_dI (RTo8.same u9).dp RT9.dp (trows_sh _) ⟨_, rfl, ifF rfl ?_⟩
    have tn2 : ∀ y ∈ tns rows m, y < 2001 := fun y hy => by
      unfold tns at hy
      obtain ⟨x, hx, rfl⟩ := List.mem_map.mp hy
      have := MD.tn_lt (List.mem_range.mp hx)
      omega
    have tnl : (tns rows m).length = rows.length := by unfold tns; rw [List.length_map, List.length_range]
    obtain ⟨r1, r2, r3, r4⟩ := repr_dI tn2 (by omega)
    refine ⟨_, rfl, .ref tu, dI (tns rows m), rfl, dpI (SqT.of (u9 _ _ tu8)), r1, r2, r3, r4, _, rfl, .ref du, dI (tns rows m), rfl, dpI (SqT.of (u9 _ _ hdu)), r1, r2, r3, r4, rfl, _, rfl, ifF (by simp) ?_⟩
    have M9 := M8.same u9
    have Mo9 := Mo8.same u9
    have L9 := L8.same u9
    have tu9 := u9 _ _ tu8
    have s09 := s08.trans u9
    clear RT9 ntp u9 s68 M8 Mo8 L8 tu8 hpp8 s08 ho8 RTo8 hpo6 epo6 hpp6 epp6 M6 Mo6 L6 tu6 s06 hdu
    -- twice turned about
    try delta tNext
    dsimp only
    show tSeq _ _ _ [some (.ref l), some (.ref r), some (.ref pf), some (.ref pw), some (.ref pt), some (.ref pm), some (.ref po), some (.ref pp), some (.ref po2), some (.ref tu), some (.ref du), none, none, none, none, none, none] H9
    have eoo := MD.opp_opp hm'
    have hoo : Mon.madeTab 0 (Ass.opp (Ass.opp rows m) m') [] = some m := by rw [eoo]; exact hm
    obtain ⟨dxo, _, _, _, ho9, _⟩ := id Mo9.ex
    refine ⟨_, rfl, po2, dxo, _, rfl, ho9, rfl, po2, _, _, m', m, rfl, Mo9, MOp, hoo, fun po3 H10 _ s10 M10 => ?_⟩
    rw [eoo] at M10
    refine ⟨_, rfl, mo_neD T M10 (M9.same s10) ⟨_, rfl, ifF (by simp) ?_⟩⟩
    obtain ⟨dxm, tm, _, _, hm10, RTm, _⟩ := id (M9.same s10).ex
    have L10 := L9.same s10
    refine ⟨_, rfl, _, _, _, _, _, rfl, hm10, cl, n0, rfl, tcb1 ?_⟩
    refine ⟨_, rfl, pt, rfl, ⟨_, SqL.of L10.t⟩, fun D nD => ?_⟩
    have nDt : pt ≠ D := fun z => by rw [← z, L10.t] at nD; cases nD
    refine lc_list (K := K) (a := pt) (xs := bs.map V.ref) (fun i Hc => But D H10 Hc ∧ ∃ us : List Addr, Hc D = some (.lst (us.map V.ref)) ∧ us.length = i ∧ ∀ (j : Nat) u row, us[j]? = some u → rows[j]? = some row → u ≠ D ∧ Hc u = some (.tup (row.map nv)))
      ⟨But.upd, [], upd_same, rfl, fun j u row h => by simp at h⟩ (fun i Hc _ ⟨b, _⟩ => SqL.of (b _ _ nDt L10.t)) (fun i z Hc hz ⟨bc, us, hD, lu, pu⟩ => ?_) (fun Hc ⟨bc, us, hD, lu, pu⟩ => ?_)
    · obtain ⟨a, ha, rfl⟩ := map_get hz
      obtain ⟨row, hrow⟩ := lt_get (show i < rows.length by rw [← L10.tl]; exact get_lt ha)
      have haH := L10.te i a row ha hrow
      have il := get_lt hrow
      have naD : a ≠ D := fun z => by rw [← z, haH] at nD; cases nD
      refine ⟨rfl, yesT ⟨_, rfl, a, _, rfl, .inl ⟨SqL.of (bc _ _ naD haH), fun b nb => ?_⟩⟩⟩
      have nbD : b ≠ D := fun z => by rw [z, hD] at nb; cases nb
      refine ⟨_, by rw [upd_ne nbD.symm]; exact hD, by rw [List.length_map, lu]; show i < 16777216; omega, fun c o nc e => by rw [upd_ne nc, upd_ne (ne_of_none (bc c o nc e) nb)]; exact bc c o nc e, us ++ [b], by rw [upd_same, List.map_append]; rfl, by rw [List.length_append, lu]; rfl, fun j u r' h1 h2 => ?_⟩
      by_cases hj : j < us.length
      · rw [List.getElem?_append_left hj] at h1
        obtain ⟨q1, q3⟩ := pu j u r' h1 h2
        exact ⟨q1, by rw [upd_ne q1, upd_ne (ne_of_none q3 nb)]; exact q3⟩
      · have := get_lt h1
        rw [List.length_append, List.length_singleton] at this
        have e : j = us.length := by omega
        subst e
        rw [List.getElem?_append_right (Nat.le_refl _), Nat.sub_self] at h1
        cases h1
        rw [lu, hrow] at h2
        cases h2
        exact ⟨nbD, by rw [upd_ne nbD]; exact upd_same⟩
    rw [List.length_map, L10.tl] at lu
    have s11 := Same.but (L2.Same.refl H10) nD bc
    refine ⟨D, _, rfl, .inl ⟨SqL.of hD, fun tq ntq => ?_⟩⟩
    have u12 := same_upd (o := .tup (us.map V.ref)) ntq
    have RT12 : RowsT K (L2.upd Hc tq (.tup (us.map V.ref))) tq rows := ⟨us, SqT.of upd_same, lu, fun i a row h1 h2 => SqT.of (u12 _ _ (pu i a row h1 h2).2)⟩
    have s1012 := s11.trans u12
    generalize L2.upd Hc tq (.tup (us.map V.ref)) = H12 at RT12 s1012 ⊢
    refine ne_dI (RTm.same s1012).dp RT12.dp (trows_sh _) ⟨_, rfl, ifF rfl ?_⟩
    have s912 := s10.trans s1012
    have M12 := M9.same s912
    have Mo12 := Mo9.same s912
    have L12 := L9.same s912
    have tu12 := s912 _ _ tu9
    have s012 := s09.trans s912
    clear RT12 RTm s1012 u12 s11 ntq hD lu pu bc nD nDt L10 hm10 M10 s10 s912 M9 Mo9 L9 tu9 s09 ho9
    obtain ⟨dxo, _, _, _, ho12, _⟩ := id Mo12.ex
    try delta tNext
    dsimp only
    show tSeq _ _ _ [some (.ref l), some (.ref r), some (.ref pf), some (.ref pw), some (.ref pt), some (.ref pm), some (.ref po), some (.ref pp), some (.ref po2), some (.ref tu), some (.ref du), none, none, none, none, none, none] H12
    refine ⟨_, rfl, po2, dxo, _, rfl, ho12, rfl, po2, _, _, m', rfl, Mo12, MOp, fun bk H13 s13 hbk => ?_⟩
    have tu13 := s13 _ _ tu12
    refine ⟨_, rfl, tu, rfl, ⟨_, SqT.of tu13⟩, fun D nD => ?_⟩
    have tkb : ∀ {b : Addr} {o : HO}, H13 b = some o → b ≠ D := fun e => ne_of_none e nD
    refine lc_tup (K := K) (a := tu) (xs := (tns rows m).map nv) (fun i Hc => But D H13 Hc ∧ Hc D = some (.lst ((List.range i).map nv))) ⟨But.upd, upd_same⟩ (fun i Hc _ ⟨b, _⟩ => SqT.of (b _ _ (tkb tu13) tu13)) (fun i z Hc hz ⟨bc, hD⟩ => ?_) (fun Hc ⟨bc, hD⟩ => ?_)
    · obtain ⟨y, hy, rfl⟩ := map_get hz
      have iN : i < rows.length := by have := get_lt hy; omega
      have ey : y = Ass.tn rows m i := by
        have := tns_get (m := m) iN
        rw [get_map hy] at this
        injection this with this
        injection this with this
        omega
      subst ey
      refine ⟨rfl, yesT ?_⟩
      have gb := tns_get (rows := Ass.opp rows m) (m := m') (show Ass.tn rows m i < (Ass.opp rows m).length by rw [opl]; exact MD.tn_lt iN)
      rw [MD.tn_tn hm' iN] at gb
      refine ⟨_, rfl, _, rfl, bk, _, _, nv i, rfl, rfl, SqT.of (bc _ _ (tkb hbk) hbk), atI_nat gb, _, hD, by rw [List.length_map, List.length_range]; show i < 16777216; omega, bc.trans But.upd, ?_⟩
      rw [upd_same, List.range_succ, List.map_append]
      rfl
    rw [List.length_map, tnl] at hD
    have s14 := Same.but (L2.Same.refl H13) nD bc
    have s1214 := s13.trans s14
    have L14 := L12.same s1214
    refine ⟨_, rfl, pf, as.map V.ref, rfl, .inl (SqL.of L14.f), ((rows.length : Nat) : Int), by rw [List.length_map, L14.fl, rl], RgOk.of_le (by omega) (by omega) (by omega) (by omega), fun lf nlf => ?_⟩
    rw [rgV_nv]
    have u15 := same_upd (o := .lst ((Mon.idm rows.length).map nv)) nlf
    refine ne_dI (dp_nums (u15 _ _ hD)) (dp_nums (show L2.upd Hc lf (.lst ((Mon.idm rows.length).map nv)) lf = some (.lst ((List.range rows.length).map nv)) from upd_same)) (ints_sh _) ⟨_, rfl, ifF rfl ?_⟩
    have s1215 := s1214.trans u15
    generalize L2.upd Hc lf (.lst ((Mon.idm rows.length).map nv)) = H15 at s1215 ⊢
    have M15 := M12.same s1215
    have Mo15 := Mo12.same s1215
    have L15 := L12.same s1215
    have tu15 := s1215 _ _ tu12
    have s015 := s012.trans s1215
    have g0 := tns_get (m := m) MD.p0
    rw [MD.tn_0] at g0
    refine ⟨_, rfl, tu, _, 0, nv 0, rfl, rfl, SqT.of tu15, atI_nat (j := 0) g0, rfl, _, rfl, ifF rfl ?_⟩
    clear u15 hD s14 bc nD tkb s13 hbk tu13 s1214 L14 nlf s1215 M12 Mo12 L12 tu12 s012 ho12
    -- the left table
    obtain ⟨dxm, tm, _, _, hm15, RTm, _⟩ := id M15.ex
    obtain ⟨rs, sqm, lrs, rsrow⟩ := id RTm.ex
    try delta tNext
    dsimp only
    show tSeq _ _ _ [some (.ref l), some (.ref r), some (.ref pf), some (.ref pw), some (.ref pt), some (.ref pm), some (.ref po), some (.ref pp), some (.ref po2), some (.ref tu), some (.ref du), some (.ref bk), none, none, none, none, none] H15
    refine ⟨_, rfl, _, _, _, _, _, rfl, hm15, cl, n0, rfl, tm, rfl, ⟨_, sqm⟩, fun D nD => ?_⟩
    have tkD : ∀ {b : Addr} {o : HO}, H15 b = some o → b ≠ D := fun e => ne_of_none e nD
    refine lc_tup (K := K) (a := tm) (xs := rs.map V.ref) (fun i Hc => But D H15 Hc ∧ ∃ us : List Addr, Hc D = some (.lst (us.map V.ref)) ∧ us.length = i ∧ ∀ (j : Nat) u row, us[j]? = some u → (rows.map fun row => row.map (Ass.tn rows m))[j]? = some row → u ≠ D ∧ Hc u = some (.tup (row.map nv)))
      ⟨But.upd, [], upd_same, rfl, fun j u row h => by simp at h⟩ (fun i Hc _ ⟨b, _⟩ => Lf.SqT.same (Same.but (L2.Same.refl H15) nD b) sqm) (fun i z Hc hz ⟨bc, us, hD, lu, pu⟩ => ?_) (fun Hc ⟨bc, us, hD, lu, pu⟩ => ?_)
    · obtain ⟨a, ha, rfl⟩ := map_get hz
      have sc := Same.but (L2.Same.refl H15) nD bc
      obtain ⟨row, hrow⟩ := lt_get (show i < rows.length by rw [← lrs]; exact get_lt ha)
      have il := get_lt hrow
      have fr := MD.F.2.2.2.2 row (List.mem_of_getElem? hrow)
      have sa := Lf.SqT.same sc (rsrow i a row ha hrow)
      have tu' := sc _ _ tu15
      refine ⟨rfl, yesT ⟨_, rfl, a, rfl, ⟨_, sa⟩, fun C nC => ?_⟩⟩
      have nCD : C ≠ D := fun z => by rw [z, hD] at nC; cases nC
      refine lc_tup (K := K) (a := a) (xs := row.map nv) (fun k Hd => But C Hc Hd ∧ Hd C = some (.lst (((row.take k).map (Ass.tn rows m)).map nv))) ⟨But.upd, upd_same⟩ (fun k Hd _ ⟨b, _⟩ => Lf.SqT.same (Same.but (L2.Same.refl Hc) nC b) sa) (fun k z Hd hz ⟨bd, hC⟩ => ?_) (fun Hd ⟨bd, hC⟩ => ?_)
      · obtain ⟨y, hy, rfl⟩ := map_get hz
        have yl := fr.2 y (List.mem_of_getElem? hy)
        refine ⟨rfl, yesT ?_⟩
        refine ⟨_, rfl, _, rfl, tu, _, _, nv (Ass.tn rows m y), rfl, rfl, SqT.of (bd _ _ (ne_of_none tu' nC) tu'), atI_nat (tns_get yl), _, hC, by rw [List.length_map, List.length_map, List.length_take]; have := get_lt hy; have := fr.1; show min k _ < 16777216; omega, bd.trans But.upd, ?_⟩
        rw [upd_same, take_snoc hy, List.map_append, List.map_append]
        rfl
      · rw [List.length_map, List.take_length] at hC
        have sd := Same.but (L2.Same.refl Hc) nC bd
        refine ⟨C, _, rfl, .inl ⟨SqL.of hC, fun b nb => ?_⟩⟩
        have hD' := sd _ _ hD
        have nbD : b ≠ D := fun z => by rw [z, hD'] at nb; cases nb
        have er : (rows.map fun row => row.map (Ass.tn rows m))[i]? = some (row.map (Ass.tn rows m)) := get_map (f := fun row => row.map (Ass.tn rows m)) hrow
        refine ⟨_, by rw [upd_ne nbD.symm]; exact hD', by rw [List.length_map, lu]; show i < 16777216; omega, fun c o nc e => by rw [upd_ne nc, upd_ne (ne_of_none (sd _ _ (bc c o nc e)) nb)]; exact sd _ _ (bc c o nc e), us ++ [b], by rw [upd_same, List.map_append]; rfl, by rw [List.length_append, lu]; rfl, fun j u r' h1 h2 => ?_⟩
        by_cases hj : j < us.length
        · rw [List.getElem?_append_left hj] at h1
          obtain ⟨q1, q3⟩ := pu j u r' h1 h2
          exact ⟨q1, by rw [upd_ne q1, upd_ne (ne_of_none (sd _ _ q3) nb)]; exact sd _ _ q3⟩
        · have := get_lt h1
          rw [List.length_append, List.length_singleton] at this
          have e : j = us.length := by omega
          subst e
          rw [List.getElem?_append_right (Nat.le_refl _), Nat.sub_self] at h1
          cases h1
          rw [lu, er] at h2
          cases h2
          exact ⟨nbD, by rw [upd_ne nbD]; exact upd_same⟩
    rw [List.length_map, lrs] at lu
    have s16 := Same.but (L2.Same.refl H15) nD bc
    have hdu2 := hD
    have pu2 : ∀ (j : Nat) u row, us[j]? = some u → (rows.map fun row => row.map (Ass.tn rows m))[j]? = some row → Hc u = some (.tup (row.map nv)) := fun j u row h1 h2 => (pu j u row h1 h2).2
    dsimp only
    show tSeq _ _ _ [some (.ref l), some (.ref r), some (.ref pf), some (.ref pw), some (.ref pt), some (.ref pm), some (.ref po), some (.ref pp), some (.ref po2), some (.ref tu), some (.ref D), some (.ref bk), none, none, none, none, none] Hc
    clear pu bc hD tkD nD rsrow sqm hm15 RTm
    have M16 := M15.same s16
    have Mo16 := Mo15.same s16
    have L16 := L15.same s16
    have tu16 := s16 _ _ tu15
    have s016 := s015.trans s16
    clear s16 M15 Mo15 L15 tu15 s015
    generalize Hc = H16 at hdu2 pu2 M16 Mo16 L16 tu16 s016 ⊢
    obtain ⟨dxo, _, _, _, ho16, _⟩ := id Mo16.ex
    have SC := MD.scat hm'
    refine ⟨_, rfl, tu, rfl, ⟨_, SqT.of tu16⟩, fun C nC => ?_⟩
    refine lc_tup (K := K) (a := tu) (xs := (tns rows m).map nv) (fun i Hc => But C H16 Hc ∧ ∃ zs : List Addr, Hc C = some (.lst (zs.map V.ref)) ∧ zs.length = i ∧ ∀ (j : Nat) u row, zs[j]? = some u → (rows.map fun row => row.map (Ass.tn rows m))[j]? = some row → SqT K Hc u (row.map nv))
      ⟨But.upd, [], upd_same, rfl, fun j u row h => by simp at h⟩ (fun i Hc _ ⟨b, _⟩ => Lf.SqT.same (Same.but (L2.Same.refl H16) nC b) (SqT.of tu16)) (fun i z Hc hz ⟨bc, zs, hC, lz, pz⟩ => ?_) (fun Hc ⟨bc, zs, hC, lz, pz⟩ => ?_)
    · obtain ⟨y, hy, rfl⟩ := map_get hz
      have iN : i < rows.length := by have := get_lt hy; omega
      have ey : y = Ass.tn rows m i := by
        have := tns_get (m := m) iN
        rw [get_map hy] at this
        injection this with this
        injection this with this
        omega
      subst ey
      have sc := Same.but (L2.Same.refl H16) nC bc
      refine ⟨rfl, yesT ?_⟩
      have moc := Mo16.same sc
      obtain ⟨dxc, _, _, _, hpc, _⟩ := id moc.ex
      refine ⟨_, rfl, po2, dxc, _, rfl, hpc, rfl, po2, _, m', rfl, moc, fun v RV => ?_⟩
      obtain ⟨vs, sv, lv, vrow⟩ := RV.ex
      have tl : Ass.tn rows m i < vs.length := by rw [lv, MOp.left_len, opl]; exact MD.tn_lt iN
      obtain ⟨va, hva⟩ := lt_get tl
      obtain ⟨row, hrow⟩ := lt_get iN
      have er : (rows.map fun row => row.map (Ass.tn rows m))[i]? = some (row.map (Ass.tn rows m)) := get_map (f := fun row => row.map (Ass.tn rows m)) hrow
      have el : (Mon.leftTab (Ass.opp rows m) m')[Ass.tn rows m i]? = some (row.map (Ass.tn rows m)) := by
        obtain ⟨l0, hl0⟩ := lt_get (show Ass.tn rows m i < (Mon.leftTab (Ass.opp rows m) m').length by rw [← lv]; exact tl)
        have := SC.row i iN
        rw [Mon.getD_of hl0, Mon.getD_of hrow] at this
        rw [hl0, this]
      refine ⟨_, rfl, v, _, _, .ref va, rfl, rfl, sv, atI_nat (get_map hva), _, hC, by rw [List.length_map, lz]; show i < 16777216; omega, bc.trans But.upd, zs ++ [va], by rw [upd_same, List.map_append]; rfl, by rw [List.length_append, lz]; rfl, fun j u r' h1 h2 => ?_⟩
      refine sqT_solid (Solid.lst (ys := zs.map V.ref ++ [.ref va]) hC) ?_
      by_cases hj : j < zs.length
      · rw [List.getElem?_append_left hj] at h1
        exact pz j u r' h1 h2
      · have := get_lt h1
        rw [List.length_append, List.length_singleton] at this
        have e : j = zs.length := by omega
        subst e
        rw [List.getElem?_append_right (Nat.le_refl _), Nat.sub_self] at h1
        cases h1
        rw [lz, er] at h2
        cases h2
        exact vrow _ va _ hva el
    rw [List.length_map, tnl] at lz
    have s17 := Same.but (L2.Same.refl H16) nC bc
    have lR : (rows.map fun row => row.map (Ass.tn rows m)).length = rows.length := List.length_map _
    refine ⟨_, rfl, ne_dI (d := .list ((rows.map fun row => row.map (Ass.tn rows m)).map dI)) (.lst (SqL.of hC) (dpR (by rw [lR, lz]) pz)) (.lst (SqL.of (s17 _ _ hdu2)) (dpR (by rw [lR, lu]) fun j u row h1 h2 => SqT.of (s17 _ _ (pu2 j u row h1 h2)))) (rows_sh _) ⟨_, rfl, ifF rfl ?_⟩⟩
    have M17 := M16.same s17
    have Mo17 := Mo16.same s17
    have L17 := L16.same s17
    have tu17 := s17 _ _ tu16
    have s017 := s016.trans s17
    clear pz hC bc nC hdu2 pu2 M16 Mo16 L16 tu16 s016 s17 ho16
    generalize Hc = H17 at M17 Mo17 L17 tu17 s017 ⊢
    -- words
    obtain ⟨dxm, _, _, _, hm17, _⟩ := id M17.ex
    obtain ⟨dxo, _, _, _, ho17, _⟩ := id Mo17.ex
    refine ⟨_, rfl, 60, rfl, pw, _, rfl, SqL.of L17.w, fun l1 nl1 => ⟨l1, rfl, ⟨_, SqL.of upd_same⟩, ?_⟩⟩
    have u18 := same_upd (o := .lst (cutV ((Mon.wordTab m).map wv) none (some 60))) nl1
    have at18 : L2.upd H17 l1 (.lst (cutV ((Mon.wordTab m).map wv) none (some 60))) l1 = some (.lst (cutV ((Mon.wordTab m).map wv) none (some 60))) := upd_same
    generalize L2.upd H17 l1 (.lst (cutV ((Mon.wordTab m).map wv) none (some 60))) = H18 at u18 at18 ⊢
    refine for_list (K := K) (a := l1) (xs := cutV ((Mon.wordTab m).map wv) none (some 60)) (fun i σ Hn => ∃ v12 : Option V, σ = [some (.ref l), some (.ref r), some (.ref pf), some (.ref pw), some (.ref pt), some (.ref pm), some (.ref po), some (.ref pp), some (.ref po2), some (.ref tu), some (.ref D), some (.ref bk), v12, none, none, none, none] ∧ Same H18 Hn)
      ⟨none, rfl, L2.Same.refl _⟩ (fun i σ Hn _ ⟨_, _, e⟩ => SqL.of (e _ _ at18)) (fun i z σ Hn hz ⟨v12, eσ, sn⟩ => ?_) (fun σ Hn ⟨v12, eσ, sn⟩ => ?_)
    · subst eσ
      have zm : z ∈ (Mon.wordTab m).map wv := by
        have := List.mem_of_getElem? hz
        unfold cutV at this
        exact List.mem_of_mem_drop (List.mem_of_mem_take this)
      obtain ⟨wd, hwd, rfl⟩ := List.mem_map.mp zm
      obtain ⟨k, hk⟩ := List.getElem?_of_mem hwd
      have w1 : wd.length ≤ 100 := by
        have := Mon.word_100 TB n1 n4 hm lm k
        rw [Mon.getD_of hk] at this
        exact this
      have w2 : ∀ c ∈ wd, c < gens.length := by
        have := word_letters MD.F hm k
        rw [Mon.getD_of hk] at this
        exact this
      have w3 : ∀ c ∈ wd.reverse, c < gens.length := fun c hc => w2 c (List.mem_reverse.mp hc)
      have sN := u18.trans sn
      have w0 := Ass.walk_lt MD.F MD.p0 w2
      refine ⟨_, rfl, _, rfl, pm, dxm, _, rfl, sN _ _ hm17, rfl, _, rfl, pm, rows, m, _, wd, rfl, M17.same sN, MD.F, w2, w1, fun H19 s19 => ?_⟩
      have sM := sN.trans s19
      refine ⟨tu, _, _, nv (Ass.tn rows m (Mon.walk rows 0 wd)), rfl, rfl, SqT.of (sM _ _ tu17), atI_nat (tns_get w0), ?_⟩
      refine ⟨_, rfl, po2, dxo, _, rfl, sM _ _ ho17, rfl, _, rfl, ws wd, rfl, by rw [ws_len]; show wd.length ≤ 16777216; omega, ?_⟩
      rw [ws_rev]
      refine ⟨po2, _, m', _, wd.reverse, rfl, Mo17.same sM, MOp.F, w3, by rw [List.length_reverse]; exact w1, fun H20 s20 => ?_⟩
      have e0 : Mon.walk (Ass.opp rows m) 0 wd.reverse = Ass.tn rows m (Mon.walk rows 0 wd) := by
        have := MD.walkR MD.p0 w3
        rw [MD.tn_0, MD.walkL MD.p0 w3, List.reverse_reverse, MD.one_r] at this
        exact this
      rw [e0]
      exact ⟨rfl, _, rfl, ifF (by simp) ⟨_, rfl, sn.trans (s19.trans s20)⟩⟩
    · subst eσ
      have sN := u18.trans sn
      have s0N := s017.trans sN
      refine ⟨_, rfl, _, rfl, _, rfl, _, rfl, l, c, pm, po2, tu, n, gens, found, rows, m, m', rfl, src.same s0N, c1, M17.same sN, Mo17.same sN, SqT.of (sN _ _ tu17), MD, hm', TB, n1, n4, fun H' b s' => fin H' ((But.of s0N).trans b) s'⟩
end
end K16

set_option Elab.async false
set_option linter.all false
set_option maxRecDepth 100000
set_option maxHeartbeats 4000000
/-! Tables told by their left tables; those of a turn with all maps to one point, of rings. -/
namespace Ass
open PySem PySem.Spec PyProof.Rows L2 Lf
section
variable {rows T : List (List Nat)} {wd : Nat} {m mT : List (Nat × Nat)}
/-- the left table is the one that starts and goes on so -/
theorem left_unique (F : Form rows wd) (hm : Mon.madeTab 0 rows [] = some m) (lT : T.length = rows.length) (T0 : T.getD 0 [] = rows.getD 0 []) (step : ∀ i c, i < rows.length → c < wd → T.getD ((rows.getD i []).getD c 0) [] = (T.getD i []).map fun x => (rows.getD x []).getD c 0) : Mon.leftTab rows m = T := by
  have lm := made_len F hm
  have key : ∀ i, i ≤ m.length → Mon.leftTab rows (m.take i) = T.take (i + 1) := by
    intro i
    induction i with
    | zero =>
      intro _
      obtain ⟨t0, h0⟩ := lt_get (show 0 < T.length by have := F.1; omega)
      rw [take_snoc h0, List.take_zero]
      show [rows.getD 0 []] = [] ++ [t0]
      rw [← T0, Mon.getD_of h0]
      rfl
    | succ i ih =>
      intro hi
      obtain ⟨p, hp⟩ := lt_get (show i < m.length by omega)
      obtain ⟨a, row, b, c⟩ := Mon.madeTab_lt hm hp
      have pl : p.1 < rows.length := get_lt b
      have cw : p.2 < wd := by rw [← (F.2.2.2.2 row (List.mem_of_getElem? b)).1]; exact get_lt c
      obtain ⟨t, ht⟩ := lt_get (show i + 1 < T.length by omega)
      rw [take_snoc hp, Mon.left_snoc, ih (by omega), take_snoc ht]
      show T.take (i + 1) ++ [((T.take (i + 1)).getD p.1 []).map fun x => (rows.getD x []).getD p.2 0] = _
      have e : (T.take (i + 1)).getD p.1 [] = T.getD p.1 [] := by
        obtain ⟨u, hu⟩ := lt_get (show p.1 < T.length by omega)
        have : (T.take (i + 1))[p.1]? = some u := by rw [List.getElem?_take_of_lt a]; exact hu
        rw [Mon.getD_of this, Mon.getD_of hu]
      have s := step p.1 p.2 pl cw
      rw [Mon.getD_of b, Mon.getD_of c, Mon.getD_of ht] at s
      rw [e, ← s]
  have := key m.length (Nat.le_refl _)
  rw [List.take_length, List.take_of_length_le (by omega)] at this
  exact this
theorem md_of (F : Form rows wd) (hm : Mon.madeTab 0 rows [] = some m) (lT : T.length = rows.length) (T0 : T.getD 0 [] = rows.getD 0 []) (step : ∀ i c, i < rows.length → c < wd → T.getD ((rows.getD i []).getD c 0) [] = (T.getD i []).map fun x => (rows.getD x []).getD c 0) : Md rows wd m := by
  refine ⟨F, hm, ?_⟩
  rw [left_unique F hm lT T0 step]
  intro i c row t li lt h1 h2 h3 h4
  have cw : c < wd := by rw [← (F.2.2.2.2 row (List.mem_of_getElem? h1)).1]; exact get_lt h2
  have s := step i c (get_lt h1) cw
  rw [Mon.getD_of h1, Mon.getD_of h2, Mon.getD_of h3, Mon.getD_of h4] at s
  exact s
/-- a left table in order is the opposite's table -/
theorem opp_of (M : Md rows wd m) (e : Mon.leftTab rows m = T) (hT : Mon.madeTab 0 T [] = some mT) (lT : mT.length + 1 = T.length) : opp rows m = T ∧ ∀ x, x < rows.length → tn rows m x = x := by
  have lN : T.length = rows.length := by rw [← e, M.left_len]
  have eo : Reach.ord T 0 = List.range rows.length := by
    have := Reach.known_table hT lT
    rw [lN] at this
    unfold Reach.ord
    rw [lN]
    exact this
  have et : ∀ x, x < rows.length → Reach.idx (Reach.ord T 0) x = x := fun x hx => Reach.idx_at Reach.ord_nd (by rw [eo]; exact List.getElem?_range hx)
  refine ⟨?_, fun x hx => ?_⟩
  · unfold opp
    rw [e]
    unfold Reach.renum
    rw [eo]
    refine List.ext_getElem? fun k => ?_
    by_cases hk : k < rows.length
    · obtain ⟨l, hl⟩ := lt_get (show k < T.length by omega)
      rw [List.getElem?_map, List.getElem?_range hk, hl]
      show some ((T.getD k []).map _) = some l
      rw [Mon.getD_of hl]
      congr 1
      have ll := M.left_row (k := k) (l := l) (by rw [e]; exact hl)
      refine (List.map_congr_left fun x hx => ?_).trans (List.map_id l)
      rw [← eo]
      exact et x (ll.2 x hx)
    · rw [List.getElem?_eq_none (by rw [List.length_map, List.length_range]; omega), List.getElem?_eq_none (by omega)]
  · unfold tn O
    rw [e]
    exact et x hx
/-- a table in order, told by how many are known row by row -/
theorem made_of (ln : Nat → Nat) (h0 : ln 0 = 0) (hs : ∀ i row, rows[i]? = some row → i < ln i + 1 ∧ ∀ m : List (Nat × Nat), m.length = ln i → ∃ m', Mon.madeRow i 0 row m = some m' ∧ m'.length = ln (i + 1)) : ∃ m, Mon.madeTab 0 rows [] = some m ∧ m.length = ln rows.length := by
  have key : ∀ i, i ≤ rows.length → ∃ m, Mon.madeTab 0 (rows.take i) [] = some m ∧ m.length = ln i := by
    intro i
    induction i with
    | zero => intro _; exact ⟨[], rfl, h0.symm⟩
    | succ i ih =>
      intro hi
      obtain ⟨m, a, b⟩ := ih (by omega)
      obtain ⟨row, hr⟩ := lt_get (show i < rows.length by omega)
      obtain ⟨c, d⟩ := hs i row hr
      obtain ⟨m', e, f⟩ := d m b
      refine ⟨m', ?_, f⟩
      have l : (rows.take i).length = i := by rw [List.length_take]; omega
      rw [take_snoc hr, Mon.madeTab_app, a, Option.bind_some, l, Nat.zero_add, Mon.madeTab, if_neg (by omega), e, Option.bind_some, Mon.madeTab]
  have := key rows.length (Nat.le_refl _)
  rwa [List.take_length] at this
end
theorem row1 {i t k k' : Nat} {m : List (Nat × Nat)} (lm : m.length = k) (h : t ≤ k + 1) (e : k' = if t = k + 1 then k + 1 else k) : ∃ m', Mon.madeRow i 0 [t] m = some m' ∧ m'.length = k' := by
  rw [Mon.madeRow, lm, if_neg (by omega)]
  by_cases c : t = k + 1
  · rw [if_pos c] at e ⊢
    exact ⟨_, rfl, by rw [List.length_append, lm, e]; rfl⟩
  · rw [if_neg c] at e ⊢
    exact ⟨_, rfl, by rw [lm, e]⟩
theorem row2 {i x y k k' : Nat} {m : List (Nat × Nat)} (lm : m.length = k) (hx : x ≤ k + 1) (hy : y ≤ (if x = k + 1 then k + 1 else k) + 1) (e : k' = if y = (if x = k + 1 then k + 1 else k) + 1 then (if x = k + 1 then k + 1 else k) + 1 else (if x = k + 1 then k + 1 else k)) : ∃ m', Mon.madeRow i 0 [x, y] m = some m' ∧ m'.length = k' := by
  rw [Mon.madeRow, lm, if_neg (by omega)]
  by_cases c : x = k + 1
  · rw [if_pos c] at e hy ⊢
    have l2 : (m ++ [(i, 0)]).length = k + 1 := by rw [List.length_append, lm]; rfl
    rw [Mon.madeRow, l2, if_neg (by omega)]
    by_cases d : y = k + 1 + 1
    · rw [if_pos d] at e ⊢
      exact ⟨_, rfl, by rw [List.length_append, l2, e]; rfl⟩
    · rw [if_neg d] at e ⊢
      exact ⟨_, rfl, by rw [l2, e]⟩
  · rw [if_neg c] at e hy ⊢
    rw [Mon.madeRow, lm, if_neg (by omega)]
    by_cases d : y = k + 1
    · rw [if_pos d] at e ⊢
      exact ⟨_, rfl, by rw [List.length_append, lm, e]; rfl⟩
    · rw [if_neg d] at e ⊢
      exact ⟨_, rfl, by rw [lm, e]⟩
/-! ### a turn of N / 2 points with all maps to one point -/
def hx (N i : Nat) : Nat := if i = 0 then 1 else if i < N - 3 then i + 2 else if i = N - 3 then 0 else if i = N - 2 then N - 1 else 2
def hereR (N : Nat) : List (List Nat) := (List.range N).map fun i => [hx N i, 2]
def tx (N i : Nat) : Nat := if i = 0 then 1 else if i = N - 1 then N - 1 else if i = N - 3 then 0 else if i % 2 = 0 then i else i + 2
def ty (N i : Nat) : Nat := if i = 0 then 2 else if i = N - 1 then N - 1 else if i = N - 3 then N - 1 else if i % 2 = 0 then i else i + 3
def thereR (N : Nat) : List (List Nat) := (List.range N).map fun i => [tx N i, ty N i]
def lnH (N i : Nat) : Nat := if i = 0 then 0 else if i ≤ N - 3 then i + 1 else if i = N - 2 then N - 2 else N - 1
def lnT (N i : Nat) : Nat := if i = 0 then 0 else if i = 1 then 2 else if N - 2 ≤ i then N - 1 else if i % 2 = 0 then i + 2 else i + 1
section
variable {N : Nat}
theorem here_len : (hereR N).length = N := by unfold hereR; rw [List.length_map, List.length_range]
theorem there_len : (thereR N).length = N := by unfold thereR; rw [List.length_map, List.length_range]
theorem here_at {i : Nat} (h : i < N) : (hereR N)[i]? = some [hx N i, 2] := by unfold hereR; rw [List.getElem?_map, List.getElem?_range h]; rfl
theorem there_at {i : Nat} (h : i < N) : (thereR N)[i]? = some [tx N i, ty N i] := by unfold thereR; rw [List.getElem?_map, List.getElem?_range h]; rfl
theorem here_at' {i : Nat} {row : List Nat} (h : (hereR N)[i]? = some row) : i < N ∧ row = [hx N i, 2] := by
  have l := get_lt h
  rw [here_len] at l
  rw [here_at l] at h
  exact ⟨l, (Option.some.inj h).symm⟩
theorem there_at' {i : Nat} {row : List Nat} (h : (thereR N)[i]? = some row) : i < N ∧ row = [tx N i, ty N i] := by
  have l := get_lt h
  rw [there_len] at l
  rw [there_at l] at h
  exact ⟨l, (Option.some.inj h).symm⟩
theorem hx_lt (n8 : 8 ≤ N) {i : Nat} (h : i < N) : hx N i < N := by
  unfold hx
  repeat' split
  all_goals omega
theorem here_form (n8 : 8 ≤ N) (n2 : N ≤ 2000) : Form (hereR N) 2 := by
  refine ⟨by rw [here_len]; omega, by rw [here_len]; exact n2, by decide, by decide, fun row hr => ?_⟩
  obtain ⟨i, hi⟩ := List.getElem?_of_mem hr
  obtain ⟨il, rfl⟩ := here_at' hi
  refine ⟨rfl, fun t ht => ?_⟩
  rw [here_len]
  have := hx_lt n8 il
  simp only [List.mem_cons, List.not_mem_nil, or_false] at ht
  rcases ht with rfl | rfl
  · exact this
  · omega
theorem here_made (n8 : 8 ≤ N) : ∃ m, Mon.madeTab 0 (hereR N) [] = some m ∧ m.length = N - 1 := by
  obtain ⟨m, a, b⟩ := made_of (rows := hereR N) (lnH N) rfl fun i row h => by
    obtain ⟨il, rfl⟩ := here_at' h
    refine ⟨by unfold lnH; repeat' split
               all_goals omega, fun m lm => row2 lm ?_ ?_ ?_⟩
    · unfold hx lnH
      repeat' split
      all_goals omega
    · unfold hx lnH
      repeat' split
      all_goals omega
    · unfold hx lnH
      repeat' split
      all_goals omega
  refine ⟨m, a, ?_⟩
  rw [b, here_len]
  unfold lnH
  repeat' split
  all_goals omega
theorem there_made (n8 : 8 ≤ N) (ev : N % 2 = 0) : ∃ m, Mon.madeTab 0 (thereR N) [] = some m ∧ m.length = N - 1 := by
  obtain ⟨m, a, b⟩ := made_of (rows := thereR N) (lnT N) rfl fun i row h => by
    obtain ⟨il, rfl⟩ := there_at' h
    refine ⟨by unfold lnT; repeat' split
               all_goals omega, fun m lm => row2 lm ?_ ?_ ?_⟩
    · unfold tx lnT
      repeat' split
      all_goals omega
    · unfold tx ty lnT
      repeat' split
      all_goals omega
    · unfold tx ty lnT
      repeat' split
      all_goals omega
  refine ⟨m, a, ?_⟩
  rw [b, there_len]
  unfold lnT
  repeat' split
  all_goals omega
theorem tx_lt (n8 : 8 ≤ N) (ev : N % 2 = 0) {i : Nat} (h : i < N) : tx N i < N ∧ ty N i < N := by
  unfold tx ty
  constructor
  · repeat' split
    all_goals omega
  · repeat' split
    all_goals omega
theorem far_step (n8 : 8 ≤ N) (ev : N % 2 = 0) : ∀ i c, i < (hereR N).length → c < 2 → (thereR N).getD (((hereR N).getD i []).getD c 0) [] = ((thereR N).getD i []).map fun x => ((hereR N).getD x []).getD c 0 := by
  intro i c hi hc
  rw [here_len] at hi
  have hl := hx_lt n8 hi
  have tl := tx_lt n8 ev hi
  have hH : ∀ x, x < N → (hereR N).getD x [] = [hx N x, 2] := fun x h => Mon.getD_of (here_at h)
  have hT : ∀ x, x < N → (thereR N).getD x [] = [tx N x, ty N x] := fun x h => Mon.getD_of (there_at h)
  rw [hH i hi, hT i hi]
  have e : c = 0 ∨ c = 1 := by omega
  rcases e with rfl | rfl
  · show (thereR N).getD (hx N i) [] = [((hereR N).getD (tx N i) []).getD 0 0, ((hereR N).getD (ty N i) []).getD 0 0]
    rw [hT _ hl, hH _ tl.1, hH _ tl.2]
    show [tx N (hx N i), ty N (hx N i)] = [hx N (tx N i), hx N (ty N i)]
    have e1 : tx N (hx N i) = hx N (tx N i) := by
      unfold tx hx
      repeat' split
      all_goals omega
    have e2 : ty N (hx N i) = hx N (ty N i) := by
      unfold ty hx
      repeat' split
      all_goals omega
    rw [e1, e2]
  · show (thereR N).getD 2 [] = [((hereR N).getD (tx N i) []).getD 1 0, ((hereR N).getD (ty N i) []).getD 1 0]
    rw [hT 2 (by omega), hH _ tl.1, hH _ tl.2]
    show [tx N 2, ty N 2] = [2, 2]
    have e1 : tx N 2 = 2 := by unfold tx; rw [if_neg (by decide), if_neg (by omega), if_neg (by omega), if_pos rfl]
    have e2 : ty N 2 = 2 := by unfold ty; rw [if_neg (by decide), if_neg (by omega), if_neg (by omega), if_pos rfl]
    rw [e1, e2]
/-- the two tables are those of opposites of one another, in the same numbering -/
theorem far_ok (n8 : 8 ≤ N) (ev : N % 2 = 0) (n2 : N ≤ 2000) : ∃ m m', Md (hereR N) 2 m ∧ Md (thereR N) 2 m' ∧ opp (hereR N) m = thereR N ∧ opp (thereR N) m' = hereR N ∧ (∀ x, x < N → tn (hereR N) m x = x) ∧ ∀ x, x < N → tn (thereR N) m' x = x := by
  obtain ⟨m, hm, lm⟩ := here_made n8
  obtain ⟨m', hm', lm'⟩ := there_made n8 ev
  have T0 : (thereR N).getD 0 [] = (hereR N).getD 0 [] := by rw [Mon.getD_of (there_at (by omega)), Mon.getD_of (here_at (by omega))]; rfl
  have lT : (thereR N).length = (hereR N).length := by rw [there_len, here_len]
  have M := md_of (here_form n8 n2) hm lT T0 (far_step n8 ev)
  have eL := left_unique (here_form n8 n2) hm lT T0 (far_step n8 ev)
  obtain ⟨eo, et⟩ := opp_of M eL hm' (by rw [lm', there_len]; omega)
  rw [here_len] at et
  have ho : Mon.madeTab 0 (opp (hereR N) m) [] = some m' := by rw [eo]; exact hm'
  have M' := M.opp ho
  have oo := M.opp_opp ho
  have tt := fun {x : Nat} (h : x < (hereR N).length) => M.tn_tn ho h
  rw [eo] at M' oo tt
  refine ⟨m, m', M, M', eo, oo, et, fun x h => ?_⟩
  have := tt (x := x) (by rw [here_len]; exact h)
  rw [et x h] at this
  exact this
end
/-! ### a ring with a way in -/
def rg (N last i : Nat) : Nat := if i + 1 < N then i + 1 else last
def ringR (N last : Nat) : List (List Nat) := (List.range N).map fun i => [rg N last i]
section
variable {N last : Nat}
theorem ring_len : (ringR N last).length = N := by unfold ringR; rw [List.length_map, List.length_range]
theorem ring_at {i : Nat} (h : i < N) : (ringR N last)[i]? = some [rg N last i] := by unfold ringR; rw [List.getElem?_map, List.getElem?_range h]; rfl
theorem rg_lt (h : last < N) {i : Nat} (hi : i < N) : rg N last i < N := by
  unfold rg
  split <;> omega
theorem ring_ok (n1 : 1 ≤ N) (n2 : N ≤ 2000) (hl : last < N) : ∃ m, Md (ringR N last) 1 m ∧ opp (ringR N last) m = ringR N last ∧ ∀ x, x < N → tn (ringR N last) m x = x := by
  have at' : ∀ {i : Nat} {row : List Nat}, (ringR N last)[i]? = some row → i < N ∧ row = [rg N last i] := fun {i row} h => by
    have l := get_lt h
    rw [ring_len] at l
    rw [ring_at l] at h
    exact ⟨l, (Option.some.inj h).symm⟩
  have F : Form (ringR N last) 1 := by
    refine ⟨by rw [ring_len]; exact n1, by rw [ring_len]; exact n2, by decide, by decide, fun row hr => ?_⟩
    obtain ⟨i, hi⟩ := List.getElem?_of_mem hr
    obtain ⟨il, rfl⟩ := at' hi
    refine ⟨rfl, fun t ht => ?_⟩
    rw [List.mem_singleton.mp ht, ring_len]
    exact rg_lt hl il
  obtain ⟨m, hm, lm⟩ := made_of (rows := ringR N last) (fun i => if i + 1 ≤ N then i else N - 1) (by show (if 0 + 1 ≤ N then 0 else N - 1) = 0; rw [if_pos (by omega)]) fun i row h => by
    obtain ⟨il, rfl⟩ := at' h
    refine ⟨by show i < (if i + 1 ≤ N then i else N - 1) + 1; rw [if_pos (by omega)]; omega, fun m lm => ?_⟩
    have lm : m.length = i := by rw [lm]; show (if i + 1 ≤ N then i else N - 1) = i; rw [if_pos (by omega)]
    refine row1 lm ?_ ?_
    · unfold rg
      split <;> omega
    · show (if i + 1 + 1 ≤ N then i + 1 else N - 1) = _
      unfold rg
      repeat' split
      all_goals omega
  have step : ∀ i c, i < (ringR N last).length → c < 1 → (ringR N last).getD (((ringR N last).getD i []).getD c 0) [] = ((ringR N last).getD i []).map fun x => ((ringR N last).getD x []).getD c 0 := by
    intro i c hi hc
    rw [ring_len] at hi
    have c0 : c = 0 := by omega
    subst c0
    rw [Mon.getD_of (ring_at hi)]
    show (ringR N last).getD (rg N last i) [] = [((ringR N last).getD (rg N last i) []).getD 0 0]
    rw [Mon.getD_of (ring_at (rg_lt hl hi))]
    rfl
  have M := md_of F hm rfl rfl step
  have lN : m.length + 1 = (ringR N last).length := M.len
  obtain ⟨a, b⟩ := opp_of M (left_unique F hm rfl rfl step) hm lN
  rw [ring_len] at b
  exact ⟨m, M, a, b⟩
end
end Ass

set_option Elab.async false
set_option linter.all false
set_option maxRecDepth 100000
set_option maxHeartbeats 8000000
namespace K16
open PySem PySem.Spec PyProof.Rows L2 Lf
def tk (k : Nat) : Nat := if k = 0 then 0 else 2 * k - 1
def ek (y k : Nat) : Nat := if k + 1 < y then 2 * k + 2 else 2 * y - 1
def lat (y k : Nat) : Nat := if k + 1 < y then k + 1 else 0
section
variable {y k : Nat}
theorem lat_mod (h : k < y) : (k + 1) % y = lat y k := by
  unfold lat
  by_cases c : k + 1 < y
  · rw [if_pos c, Nat.mod_eq_of_lt c]
  · rw [if_neg c, show k + 1 = y by omega, Nat.mod_self]
theorem tk_lt (h : k < y) : tk k < 2 * y := by unfold tk; split <;> omega
theorem ek_lt (h : k < y) : ek y k < 2 * y := by unfold ek; split <;> omega
theorem lat_lt (h : k < y) : lat y k < y := by unfold lat; split <;> omega
theorem ek_0 (y4 : 4 ≤ y) : ek y 0 = 2 := by unfold ek; rw [if_pos (by omega)]
theorem hx_tk (y4 : 4 ≤ y) (h : k < y) : Ass.hx (2 * y) (tk k) = tk (lat y k) := by
  unfold Ass.hx tk lat
  repeat' split
  all_goals omega
theorem hx_ek (y4 : 4 ≤ y) (h : k < y) : Ass.hx (2 * y) (ek y k) = ek y (lat y k) := by
  unfold Ass.hx ek lat
  repeat' split
  all_goals omega
theorem tx_tk (y4 : 4 ≤ y) (h : k < y) : Ass.tx (2 * y) (tk k) = tk (lat y k) ∧ Ass.ty (2 * y) (tk k) = ek y k := by
  unfold Ass.tx Ass.ty tk lat ek
  constructor
  · repeat' split
    all_goals omega
  · repeat' split
    all_goals omega
theorem tx_ek (y4 : 4 ≤ y) (h : k < y) : Ass.tx (2 * y) (ek y k) = ek y k ∧ Ass.ty (2 * y) (ek y k) = ek y k := by
  unfold Ass.tx Ass.ty ek
  constructor
  · repeat' split
    all_goals omega
  · repeat' split
    all_goals omega
theorem cover (y4 : 4 ≤ y) {i : Nat} (h : i < 2 * y) : ∃ k, k < y ∧ (i = tk k ∨ i = ek y k) := by
  by_cases c : i = 2 * y - 1
  · exact ⟨y - 1, by omega, .inr (by unfold ek; rw [if_neg (by omega)]; exact c)⟩
  by_cases z : i = 0
  · exact ⟨0, by omega, .inl (by unfold tk; rw [if_pos rfl]; exact z)⟩
  by_cases o : i % 2 = 0
  · exact ⟨(i - 2) / 2, by omega, .inr (by unfold ek; rw [if_pos (by omega)]; omega)⟩
  · exact ⟨(i + 1) / 2, by omega, .inl (by unfold tk; rw [if_neg (by omega)]; omega)⟩
end
/-- places that are written: rows of R at p, beside o -/
def Fill (H : Hp) (p o : Addr) (n : Nat) (R : List (List Nat)) (S : Nat → Prop) : Prop := ∃ vs : List V, H p = some (.lst vs) ∧ vs.length = n ∧ ∀ i, S i → ∃ (a : Addr) (row : List Nat), vs[i]? = some (.ref a) ∧ R[i]? = some row ∧ a ≠ p ∧ a ≠ o ∧ H a = some (.lst (row.map nv))
section
variable {H H' : Hp} {p o : Addr} {n : Nat} {R : List (List Nat)} {S S' : Nat → Prop}
theorem Fill.same (h : Fill H p o n R S) (e : Same H H') : Fill H' p o n R S := by
  obtain ⟨vs, a, b, c⟩ := h
  refine ⟨vs, e _ _ a, b, fun i hi => ?_⟩
  obtain ⟨x, row, h1, h2, h3, h4, h5⟩ := c i hi
  exact ⟨x, row, h1, h2, h3, h4, e _ _ h5⟩
theorem Fill.other (h : Fill H p o n R S) (po : p ≠ o) {u : HO} : Fill (L2.upd H o u) p o n R S := by
  obtain ⟨vs, a, b, c⟩ := h
  refine ⟨vs, by rw [upd_ne po]; exact a, b, fun i hi => ?_⟩
  obtain ⟨x, row, h1, h2, h3, h4, h5⟩ := c i hi
  exact ⟨x, row, h1, h2, h3, h4, by rw [upd_ne h4]; exact h5⟩
theorem Fill.put (h : Fill H p o n R S) {vs : List V} (hv : H p = some (.lst vs)) {i : Nat} {b : Addr} {row : List Nat} (hi : i < n) (np : b ≠ p) (no : b ≠ o) (hb : H b = some (.lst (row.map nv))) (hR : R[i]? = some row) (sub : ∀ j, S' j → S j ∨ j = i) : Fill (L2.upd H p (.lst (vs.set i (.ref b)))) p o n R S' := by
  obtain ⟨vs', a, lv, c⟩ := h
  rw [a] at hv
  cases hv
  refine ⟨vs.set i (.ref b), upd_same, by rw [List.length_set]; exact lv, fun j hj => ?_⟩
  by_cases e : j = i
  · subst e
    exact ⟨b, row, List.getElem?_set_self (by omega), hR, np, no, by rw [upd_ne np]; exact hb⟩
  · obtain ⟨x, r', h1, h2, h3, h4, h5⟩ := c j ((sub j hj).resolve_right e)
    exact ⟨x, r', by rw [List.getElem?_set_ne (Ne.symm e)]; exact h1, h2, h3, h4, by rw [upd_ne h3]; exact h5⟩
theorem Fill.done {K : PySem.W.Frag} (h : Fill H p o n R S) (lR : R.length = n) (all : ∀ i, i < n → S i) : RowsL K H p R := by
  obtain ⟨vs, a, b, c⟩ := h
  have key : ∀ k, k ≤ n → ∃ as : List Addr, as.length = k ∧ as.map V.ref = vs.take k ∧ ∀ (i : Nat) x row, as[i]? = some x → R[i]? = some row → H x = some (.lst (row.map nv)) := by
    intro k
    induction k with
    | zero => intro _; exact ⟨[], rfl, rfl, fun i x row h => by simp at h⟩
    | succ k ih =>
      intro hk
      obtain ⟨as, la, e, f⟩ := ih (by omega)
      obtain ⟨x, row, h1, h2, _, _, h5⟩ := c k (all k (by omega))
      refine ⟨as ++ [x], by rw [List.length_append, la]; rfl, by rw [List.map_append, e, take_snoc h1]; rfl, fun i z r' g1 g2 => ?_⟩
      by_cases hi : i < as.length
      · rw [List.getElem?_append_left hi] at g1
        exact f i z r' g1 g2
      · have := get_lt g1
        rw [List.length_append, List.length_singleton] at this
        have ei : i = as.length := by omega
        subst ei
        rw [List.getElem?_append_right (Nat.le_refl _), Nat.sub_self] at g1
        cases g1
        rw [la, h2] at g2
        cases g2
        exact h5
  obtain ⟨as, la, e, f⟩ := key n (Nat.le_refl _)
  rw [List.take_of_length_le (by omega)] at e
  exact ⟨as, SqL.of (by rw [e]; exact a), by omega, fun i x row h1 h2 => SqL.of (f i x row h1 h2)⟩
end
abbrev NFt : List Str := ["_law_many", "_law_step", "_law_turns", "_law_ends", "_law_here", "_law_there", "_law_later"]
abbrev te2m (c : Int) : TE := tOp (rI0 fun i j => .int (i - j)) (tOp (rI CMul fun i j => .int (i * j)) (tC (.int 2)) (tVar 1)) (tC (.int c))
abbrev te2p (c : Int) : TE := tOp (rI0 fun i j => .int (i + j)) (tOp (rI CMul fun i j => .int (i * j)) (tC (.int 2)) (tVar 1)) (tC (.int c))
theorem seq_asg {te : TE} {i : Nat} {u : TS} {Ds : Ends} {σ : L2.St} {H : Hp} (h : te σ H fun x H1 => gName i x σ H1 fun σ2 H2 => u Ds σ2 H2) : tSeq (tAsg te (gName i)) u Ds σ H := h
theorem rep2 {n : Nat} {x : V} : (List.replicate n [x]).flatten = List.replicate n x := by
  induction n with
  | zero => rfl
  | succ n ih => rw [List.replicate_succ, List.flatten_cons, ih, List.replicate_succ]; rfl
abbrev σF (y : Nat) (v1 v2 v3 v4 v5 v6 : Option V) : L2.St := [some (.int (y : Nat)), v1, v2, v3, v4, v5, v6]
theorem turns_e {K : PySem.W.Frag} {y : Nat} {H : Hp} {Q : V → Hp → Prop} (y4 : 4 ≤ y) (y1 : y ≤ 1000) (k : ∀ r H', Same H H' → H' r = some (.lst ((List.range y).map fun j => nv (tk j))) → Q (.ref r) H') :
    tOp (rCatL K) (tLst (tCons (tC (.int 0)) tNil)) (tLc (iRng2 (tCons (tC (.int 1)) (tCons (tVar 0) tNil))) (gName 1) tYes (te2m 1) [1]) (σF y none none none none none none) H Q := by
  refine ⟨(by show 1 ≤ sizeLine; decide), fun z0 nz0 => ?_⟩
  have s0 := same_upd (o := .lst [V.int 0]) nz0
  have hz0 : L2.upd H z0 (.lst [V.int 0]) z0 = some (.lst [V.int 0]) := upd_same
  generalize L2.upd H z0 (.lst [V.int 0]) = H0 at s0 hz0 ⊢
  clear nz0
  refine ⟨_, rfl, 1, ((y : Nat) : Int), rfl, ⟨by decide, by decide, by omega, by omega⟩, fun D nD => ?_⟩
  have en : ((y : Nat) - 1 : Int).toNat = y - 1 := by omega
  rw [en]
  refine lc_range (lo := 1) (n := y - 1) (fun k Hd => But D H0 Hd ∧ ∃ acc : List V, Hd D = some (.lst acc) ∧ acc = (List.range k).map fun j => nv (tk (j + 1))) ⟨But.upd, [], upd_same, rfl⟩ (fun k Hd hk ⟨bd, acc, hD, eA⟩ => ?_) (fun Hd ⟨bd, acc, hD, eA⟩ => ?_)
  · refine ⟨rfl, yesT ?_⟩
    refine ⟨_, rfl, _, _, rfl, rfl, .inl ⟨by decide, by decide⟩, _, _, rfl, rfl, acc, hD, by rw [eA, List.length_map, List.length_range]; show k < 16777216; omega, bd.trans But.upd, _, upd_same, ?_⟩
    rw [eA, List.range_succ, List.map_append]
    congr 1
    have : (2 * ((1 : Int) + (k : Nat)) - 1) = ((tk (k + 1) : Nat) : Int) := by unfold tk; rw [if_neg (by omega)]; omega
    exact congrArg (fun z => [V.int z]) this
  · refine ⟨z0, D, _, _, rfl, rfl, SqL.of (bd _ _ (fun z => by rw [z, nD] at hz0; cases hz0) hz0), SqL.of hD, by rw [eA, List.length_map, List.length_range]; show 1 + (y - 1) ≤ 16777216; omega, fun r nr => ?_⟩
    have sH : Same H0 Hd := fun b o e => bd b o (ne_of_none e nD) e
    refine k r _ ((s0.trans sH).trans (same_upd nr)) ?_
    rw [upd_same, eA, show y = (y - 1) + 1 by omega, List.range_succ_eq_map, List.map_cons, List.map_map]
    rfl
theorem ends_e {K : PySem.W.Frag} {y : Nat} {v2 : Option V} {H : Hp} {Q : V → Hp → Prop} (y4 : 4 ≤ y) (y1 : y ≤ 1000) (k : ∀ r H', Same H H' → H' r = some (.lst ((List.range y).map fun j => nv (ek y j))) → Q (.ref r) H') :
    tOp (rCatL K) (tLc (iRng1 (tCons (tOp (rI0 fun i j => V.int (i - j)) (tVar 0) (tC (V.int 1))) tNil)) (gName 1) tYes (te2p 2) [1]) (tLst (tCons (tOp (rI0 fun i j => V.int (i - j)) (tOp (rI CMul fun i j => V.int (i * j)) (tC (V.int 2)) (tVar 0)) (tC (V.int 1))) tNil)) (σF y none v2 none none none none) H Q := by
  refine ⟨_, rfl, _, _, rfl, rfl, _, rfl, by omega, by omega, fun D nD => ?_⟩
  have en : ((y : Nat) - 1 : Int).toNat = y - 1 := by omega
  rw [en]
  refine lc_range (lo := 0) (n := y - 1) (fun k Hd => But D H Hd ∧ ∃ acc : List V, Hd D = some (.lst acc) ∧ acc = (List.range k).map fun j => nv (2 * j + 2)) ⟨But.upd, [], upd_same, rfl⟩ (fun k Hd hk ⟨bd, acc, hD, eA⟩ => ?_) (fun Hd ⟨bd, acc, hD, eA⟩ => ?_)
  · refine ⟨rfl, yesT ?_⟩
    refine ⟨_, rfl, _, _, rfl, rfl, .inl ⟨by decide, by decide⟩, _, _, rfl, rfl, acc, hD, by rw [eA, List.length_map, List.length_range]; show k < 16777216; omega, bd.trans But.upd, _, upd_same, ?_⟩
    rw [eA, List.range_succ, List.map_append]
    congr 1
    have : (2 * ((0 : Int) + (k : Nat)) + 2) = ((2 * k + 2 : Nat) : Int) := by omega
    exact congrArg (fun z => [V.int z]) this
  · refine ⟨_, rfl, _, _, rfl, rfl, .inl ⟨by decide, by decide⟩, _, _, rfl, rfl, (by show 1 ≤ sizeLine; decide), fun z0 nz0 => ?_⟩
    have u0 := same_upd (o := .lst [V.int (2 * ((y : Nat) : Int) - 1)]) nz0
    refine ⟨D, z0, _, _, rfl, rfl, SqL.of (u0 _ _ hD), SqL.of upd_same, by rw [eA, List.length_map, List.length_range]; show (y - 1) + 1 ≤ 16777216; omega, fun r nr => ?_⟩
    have sH : Same H Hd := fun b o e => bd b o (ne_of_none e nD) e
    refine k r _ ((sH.trans u0).trans (same_upd nr)) ?_
    rw [upd_same, eA, show (List.range y).map (fun j => nv (ek y j)) = (List.range ((y - 1) + 1)).map fun j => nv (ek y j) by rw [show y - 1 + 1 = y by omega], List.range_succ, List.map_append]
    congr 3
    · refine List.map_congr_left fun j hj => ?_
      rw [ek, if_pos (by have := List.mem_range.mp hj; omega)]
    · show [V.int (2 * ((y : Nat) : Int) - 1)] = [nv (ek y (y - 1))]
      have : (2 * ((y : Nat) : Int) - 1) = ((ek y (y - 1) : Nat) : Int) := by rw [ek, if_neg (by omega)]; omega
      exact congrArg (fun z => [V.int z]) this
/-- a place of empty rows -/
theorem blank_e {y : Nat} {v1 v2 v3 v4 v5 v6 : Option V} {H : Hp} {Q : V → Hp → Prop} (y1 : y ≤ 1000) (k : ∀ p H' x, Same H H' → H p = none → H' p = some (.lst (List.replicate (2 * y) x)) → Q (.ref p) H') :
    tOp rRep (tLst (tCons (tLst tNil) tNil)) (tOp (rI CMul fun i j => V.int (i * j)) (tC (V.int 2)) (tVar 0)) (σF y v1 v2 v3 v4 v5 v6) H Q := by
  refine ⟨(by show 0 ≤ sizeLine; decide), fun a na => ⟨(by show 1 ≤ sizeLine; decide), fun b nb => ?_⟩⟩
  have ua := same_upd (o := .lst []) na
  have ub := same_upd (o := .lst [V.ref a]) nb
  have en : (2 * ((y : Nat) : Int)).toNat = 2 * y := by omega
  refine ⟨_, rfl, _, _, rfl, rfl, .inl ⟨by decide, by decide⟩, b, _, [V.ref a], rfl, rfl, upd_same, by omega, by omega, by rw [en]; show 1 * (2 * y) ≤ 16777216; omega, fun p np => ?_⟩
  refine k p _ (.ref a) ((ua.trans ub).trans (same_upd np)) (nil_of (ua.trans ub) np) ?_
  rw [upd_same, en, rep2]
theorem ixN_nat {n k : Nat} (h : k < n) : ixN n ((k : Nat) : Int) = some k := by
  unfold ixN
  rw [if_pos (by omega), if_pos (by omega)]
  rfl
theorem Fill.ne {H : Hp} {p o b : Addr} {n : Nat} {R : List (List Nat)} {S : Nat → Prop} (h : Fill H p o n R S) (nb : H b = none) : b ≠ p := by
  obtain ⟨_, a, _⟩ := h
  intro z
  rw [z, a] at nb
  cases nb
theorem put_two {K : PySem.W.Frag} {y i c n : Nat} {σ : L2.St} {H : Hp} {p o t e T b1 b2 : Addr} {R R' : List (List Nat)} {r1 r2 : List Nat} {S S' S'' : Nat → Prop} {Q : L2.St → Hp → Prop} (h1 : σ[1]? = some (some (nv i))) (h2 : σ[2]? = some (some (.ref t))) (h3 : σ[3]? = some (some (.ref e))) (hc : σ[c]? = some (some (.ref p)))
    (hi : i < y) (hn : n = 2 * y) (ht : H t = some (.lst ((List.range y).map fun j => nv (tk j)))) (he : H e = some (.lst ((List.range y).map fun j => nv (ek y j)))) (hT : H T = some (.tup [.ref b1, .ref b2])) (F : Fill H p o n R S) (G : Fill H o p n R' S'') (npo : p ≠ o) (tp : t ≠ p) (ep : e ≠ p)
    (hb1 : H b1 = some (.lst (r1.map nv))) (hb2 : H b2 = some (.lst (r2.map nv))) (n1 : b1 ≠ p ∧ b1 ≠ o) (n2 : b2 ≠ p ∧ b2 ≠ o) (R1 : R[tk i]? = some r1) (R2 : R[ek y i]? = some r2) (sub : ∀ j, S' j → S j ∨ j = tk i ∨ j = ek y i)
    (k : ∀ H', (∀ b u, b ≠ p → H b = some u → H' b = some u) → Fill H' p o n R S' → Fill H' o p n R' S'' → Q σ H') :
    gTup K 2 (gCons (gSub (tVar c) (tOp (rIxL K) (tVar 2) (tVar 1)) rSetL) (gCons (gSub (tVar c) (tOp (rIxL K) (tVar 3) (tVar 1)) rSetL) gNil)) (.ref T) σ H Q := by
  have ttt : ((List.range y).map fun j => nv (tk j))[i]? = some (nv (tk i)) := by rw [List.getElem?_map, List.getElem?_range hi]; rfl
  have eee : ((List.range y).map fun j => nv (ek y j))[i]? = some (nv (ek y i)) := by rw [List.getElem?_map, List.getElem?_range hi]; rfl
  have l1 := tk_lt hi
  have l2 := ek_lt hi
  have F0 := F
  obtain ⟨vs, hv, lv, _⟩ := F0
  refine ⟨T, _, rfl, SqT.of hT, rfl, _, _, rfl, ?_⟩
  refine ⟨_, hc, _, h2, _, h1, t, _, _, _, rfl, rfl, SqL.of ht, atI_nat ttt, p, vs, _, tk i, rfl, rfl, hv, ixN_nat (by omega), ?_⟩
  have F1 : Fill (L2.upd H p (.lst (vs.set (tk i) (.ref b1)))) p o n R (fun j => S j ∨ j = tk i) := F.put hv (by omega) n1.1 n1.2 hb1 R1 (fun j h => h)
  have G1 : Fill (L2.upd H p (.lst (vs.set (tk i) (.ref b1)))) o p n R' S'' := G.other (Ne.symm npo)
  refine ⟨_, _, rfl, ?_⟩
  have he1 : L2.upd H p (.lst (vs.set (tk i) (.ref b1))) e = _ := (upd_ne ep).trans he
  refine ⟨_, hc, _, h3, _, h1, e, _, _, _, rfl, rfl, SqL.of he1, atI_nat eee, p, _, _, ek y i, rfl, rfl, upd_same, ixN_nat (by rw [List.length_set]; omega), rfl, ?_⟩
  refine k _ (fun b u nb hb => by rw [upd_ne nb, upd_ne nb]; exact hb) (F1.put upd_same (by omega) n2.1 n2.2 (by rw [upd_ne n2.1]; exact hb2) R2 (fun j h => ?_)) (G1.other (Ne.symm npo))
  rcases sub j h with h | h | h
  · exact .inl (.inl h)
  · exact .inl (.inr h)
  · exact .inr h
def spFar (K : PySem.W.Frag) : Sp := fun vs H Q _ => ∃ y : Nat, vs = [.int (y : Nat)] ∧ 4 ≤ y ∧ y ≤ 1000 ∧ ∀ (T ph pt : Addr) H', Same H H' → H' T = some (.tup [.ref ph, .ref pt]) → RowsL K H' ph (Ass.hereR (2 * y)) → RowsL K H' pt (Ass.thereR (2 * y)) → Q (.ref T) H'
section
variable {P : Program} {w : World} {K : PySem.W.Frag} {mg : Str → Option Value} {base : Heap}
theorem scFt : FnScope NFt ["_law_many"] (defScope s_L_far_tables) := ⟨rfl, rfl, rfl, by decide +kernel, rfl, by decide +kernel, by decide +kernel⟩
theorem ok_far {f : Addr} {fd : FuncData} {q : Str} (F : FunD K "_law_far_tables" q (defArgs s_L_far_tables) (defBody s_L_far_tables) (defScope s_L_far_tables) [] [] f fd) (zr : mg "range" = none) (zI : mg "int" = none) :
    FnOk P w K mg base CX0 1 f fd ["_law_many"] (spFar K) := by
  refine F.ok scFt (fun vs H Q E h => ?_) (fun cdv A outer s H vs Q E hr h => ?_)
  · obtain ⟨y, rfl, _⟩ := h
    rfl
  · obtain ⟨y, rfl, y4, y1, k⟩ := h
    refine ⟨_, PSs.nox (pss_cons (ps_set (i := 2) scFt.nd rfl (.inl rfl) (pe_op op_catL (pe_lst (pa_cons pe_int pa_nil)) (pe_lc (own := [("_law_step", 1)]) (g := gName 1) (te := te2m 1) (by rfl) scFt.nd (pi_range2 rfl zr (pa_cons pe_int (pa_cons (pv 0) pa_nil))) (blkOk_by (own := [("_law_step", 1)]) (N := NFt) (sc := defScope s_L_far_tables) (by decide +kernel)) (fun _ _ _ _ _ => pg_name (i := 1) scFt.nd rfl (Or.inl rfl)) (fun _ _ _ _ _ => pts_nil)
          (fun _ _ _ _ _ => by exact pe_op op_sub (pe_op op_mul pe_int (pv 1)) pe_int))))
      (pss_cons (ps_set (i := 3) scFt.nd rfl (.inl rfl) (pe_op op_catL (pe_lc (own := [("_law_step", 1)]) (g := gName 1) (te := te2p 2) (by rfl) scFt.nd (pi_range1 rfl zr (pa_cons (pe_op op_sub (pv 0) pe_int) pa_nil)) (blkOk_by (own := [("_law_step", 1)]) (N := NFt) (sc := defScope s_L_far_tables) (by decide +kernel)) (fun _ _ _ _ _ => pg_name (i := 1) scFt.nd rfl (Or.inl rfl)) (fun _ _ _ _ _ => pts_nil)
          (fun _ _ _ _ _ => by exact pe_op op_add (pe_op op_mul pe_int (pv 1)) pe_int)) (pe_lst (pa_cons (pe_op op_sub (pe_op op_mul pe_int (pv 0)) pe_int) pa_nil))))
      (pss_cons (ps_par (i := 4) (j := 5) rfl scFt.nd rfl rfl (by decide) rfl rfl (pa_cons (pe_op op_rep (pe_lst (pa_cons (pe_lst pa_nil) pa_nil)) (pe_op op_mul pe_int (pv 0))) (pa_cons (pe_op op_rep (pe_lst (pa_cons (pe_lst pa_nil) pa_nil)) (pe_op op_mul pe_int (pv 0))) pa_nil)) (by rfl))
      (pss_cons (ps_for PassesOwn.never rfl (pi_range1 rfl zr (pa_cons (pv 0) pa_nil)) (pg_name (i := 1) scFt.nd rfl (.inl rfl))
        (pss_cons (ps_set (i := 6) scFt.nd rfl (.inl rfl) (pe_op op_mod (pe_callTy call_int1 rfl zI boot_int (pa_cons (pe_op op_add (pv 1) pe_int) pa_nil)) (pv 0)))
        (pss_cons (ps_asg (pe_tup (pa_cons (pe_lst (pa_cons (pe_ix ix_list (pv 2) (pv 6) (fun _ _ => rfl)) (pa_cons (pe_ix ix_list (pv 3) pe_int (fun _ _ => rfl)) pa_nil))) (pa_cons (pe_lst (pa_cons (pe_ix ix_list (pv 3) (pv 6) (fun _ _ => rfl)) (pa_cons (pe_ix ix_list (pv 3) pe_int (fun _ _ => rfl)) pa_nil))) pa_nil))) (pg_tup rfl (pgs_cons (pg_sub (pv 4) (pe_ix ix_list (pv 2) (pv 1) (fun _ _ => rfl)) set_list) (pgs_cons (pg_sub (pv 4) (pe_ix ix_list (pv 3) (pv 1) (fun _ _ => rfl)) set_list) pgs_nil))))
        (pss_one (ps_asg (pe_tup (pa_cons (pe_lst (pa_cons (pe_ix ix_list (pv 2) (pv 6) (fun _ _ => rfl)) (pa_cons (pe_ix ix_list (pv 3) (pv 1) (fun _ _ => rfl)) pa_nil))) (pa_cons (pe_lst (pa_cons (pe_ix ix_list (pv 3) (pv 1) (fun _ _ => rfl)) (pa_cons (pe_ix ix_list (pv 3) (pv 1) (fun _ _ => rfl)) pa_nil))) pa_nil))) (pg_tup rfl (pgs_cons (pg_sub (pv 5) (pe_ix ix_list (pv 2) (pv 1) (fun _ _ => rfl)) set_list) (pgs_cons (pg_sub (pv 5) (pe_ix ix_list (pv 3) (pv 1) (fun _ _ => rfl)) set_list) pgs_nil))))))))
      (pss_one (ps_ret (pe_tup (pa_cons (pv 4) (pa_cons (pv 5) pa_nil))))))))), ?_⟩
    dsimp only
    refine seq_asg (turns_e (K := K) y4 y1 fun t H1 s1 ht1 => ?_)
    show tSeq (tAsg _ (gName 3)) _ _ (σF y none (some (.ref t)) none none none none) H1
    refine seq_asg (ends_e (K := K) y4 y1 fun e H2 s2 he2 => ?_)
    show tSeq _ _ _ (σF y none (some (.ref t)) (some (.ref e)) none none none) H2
    have ht2 := s2 _ _ ht1
    refine blank_e y1 fun ph H3 x1 s3 np3 hp3 => ?_
    refine blank_e y1 fun pt H4 x2 s4 nt4' ht4 => ?_
    refine ⟨_, _, rfl, ?_⟩
    have npt : ph ≠ pt := ne_of_none hp3 nt4' 
    have ttt : ∀ {k : Nat}, k < y → ((List.range y).map fun j => nv (tk j))[k]? = some (nv (tk k)) := fun {k} hk => by rw [List.getElem?_map, List.getElem?_range hk]; rfl
    have eee : ∀ {k : Nat}, k < y → ((List.range y).map fun j => nv (ek y j))[k]? = some (nv (ek y k)) := fun {k} hk => by rw [List.getElem?_map, List.getElem?_range hk]; rfl
    have y0 : 0 < y := by omega
    have np2 : H2 ph = none := np3
    have nt2 : H2 pt = none := nil_of s3 nt4'
    refine ⟨_, rfl, _, rfl, by omega, by omega, ?_⟩
    refine for_range (lo := 0) (n := y) (fun i σ H' => ∃ v1 v6 : Option V, σ = σF y v1 (some (.ref t)) (some (.ref e)) (some (.ref ph)) (some (.ref pt)) v6 ∧ Same H2 H' ∧ Fill H' ph pt (2 * y) (Ass.hereR (2 * y)) (fun j => ∃ k, k < i ∧ (j = tk k ∨ j = ek y k)) ∧ Fill H' pt ph (2 * y) (Ass.thereR (2 * y)) (fun j => ∃ k, k < i ∧ (j = tk k ∨ j = ek y k)))
      ⟨none, none, rfl, s3.trans s4, ⟨_, s4 _ _ hp3, List.length_replicate, fun i ⟨k, hk, _⟩ => absurd hk (Nat.not_lt_zero _)⟩, ⟨_, ht4, List.length_replicate, fun i ⟨k, hk, _⟩ => absurd hk (Nat.not_lt_zero _)⟩⟩ (fun i σ H5 hi ⟨v1, v6, eσ, s5, F5, G5⟩ => ?_) (fun σ H5 ⟨v1, v6, eσ, s5, F5, G5⟩ => ?_)
    · subst eσ
      rw [Int.zero_add]
      have em : ((i : Nat) + 1 : Int) % ((y : Nat) : Int) = ((lat y i : Nat) : Int) := by
        rw [← lat_mod hi]
        exact (Int.natCast_emod (i + 1) y).symm
      have ht5 := s5 _ _ ht2
      have he5 := s5 _ _ he2
      have lt := lat_lt hi
      refine ⟨_, rfl, _, _, rfl, rfl, .inl ⟨_, rfl, _, rfl, _, _, rfl, rfl, by omega, ?_⟩⟩
      dsimp only
      rw [em]
      refine ⟨_, rfl, _, rfl, t, _, _, _, rfl, rfl, SqL.of ht5, atI_nat (ttt lt), _, rfl, e, _, 0, _, rfl, rfl, SqL.of he5, atI_nat (j := 0) (eee y0), (by show 2 ≤ sizeLine; decide), fun b1 nb1 => ?_⟩
      have u1 := same_upd (o := .lst [nv (tk (lat y i)), nv (ek y 0)]) nb1
      have hb1 : L2.upd H5 b1 (.lst [nv (tk (lat y i)), nv (ek y 0)]) b1 = some (.lst [nv (tk (lat y i)), nv (ek y 0)]) := upd_same
      have b1n : b1 ≠ ph ∧ b1 ≠ pt := ⟨F5.ne nb1, G5.ne nb1⟩
      have s6 := s5.trans u1
      have F6 := F5.same u1
      have G6 := G5.same u1
      generalize L2.upd H5 b1 (.lst [nv (tk (lat y i)), nv (ek y 0)]) = H6 at s6 F6 G6 hb1 ⊢
      clear u1 nb1 s5 F5 G5
      refine ⟨_, rfl, _, rfl, e, _, _, _, rfl, rfl, SqL.of (s6 _ _ he2), atI_nat (eee lt), _, rfl, e, _, 0, _, rfl, rfl, SqL.of (s6 _ _ he2), atI_nat (j := 0) (eee y0), (by show 2 ≤ sizeLine; decide), fun b2 nb2 => ?_⟩
      have u1 := same_upd (o := .lst [nv (ek y (lat y i)), nv (ek y 0)]) nb2
      have hb2 : L2.upd H6 b2 (.lst [nv (ek y (lat y i)), nv (ek y 0)]) b2 = some (.lst [nv (ek y (lat y i)), nv (ek y 0)]) := upd_same
      have b2n : b2 ≠ ph ∧ b2 ≠ pt := ⟨F6.ne nb2, G6.ne nb2⟩
      have s7 := s6.trans u1
      have F7 := F6.same u1
      have G7 := G6.same u1
      have hb1 := u1 _ _ hb1
      generalize L2.upd H6 b2 (.lst [nv (ek y (lat y i)), nv (ek y 0)]) = H7 at s7 F7 G7 hb1 hb2 ⊢
      clear u1 nb2 s6 F6 G6
      refine ⟨(by show 2 ≤ sizeLine; decide), fun T nT => ?_⟩
      have u1 := same_upd (o := .tup [.ref b1, .ref b2]) nT
      have hT : L2.upd H7 T (.tup [.ref b1, .ref b2]) T = some (.tup [.ref b1, .ref b2]) := upd_same
      have s8 := s7.trans u1
      have F8 := F7.same u1
      have G8 := G7.same u1
      have hb1 := u1 _ _ hb1
      have hb2 := u1 _ _ hb2
      generalize L2.upd H7 T (.tup [.ref b1, .ref b2]) = H8 at s8 F8 G8 hb1 hb2 hT ⊢
      clear u1 nT
      have tp : t ≠ ph := ne_of_none ht2 np2
      have ep : e ≠ ph := ne_of_none he2 np2
      have tq : t ≠ pt := ne_of_none ht2 nt2
      have eq : e ≠ pt := ne_of_none he2 nt2
      have e0 := ek_0 (y := y) y4
      have Sub : ∀ j, (∃ k, k < i + 1 ∧ (j = tk k ∨ j = ek y k)) → (∃ k, k < i ∧ (j = tk k ∨ j = ek y k)) ∨ j = tk i ∨ j = ek y i := fun j ⟨k, hk, h⟩ => by
        by_cases c : k = i
        · subst c; exact .inr h
        · exact .inl ⟨k, by omega, h⟩
      refine put_two (c := 4) (r1 := [tk (lat y i), ek y 0]) (r2 := [ek y (lat y i), ek y 0]) rfl rfl rfl rfl hi rfl (s8 _ _ ht2) (s8 _ _ he2) hT F8 G8 npt tp ep hb1 hb2 b1n b2n (by rw [Ass.here_at (tk_lt hi), hx_tk y4 hi, e0]) (by rw [Ass.here_at (ek_lt hi), hx_ek y4 hi, e0]) Sub fun H9 b9 F9 G9 => ?_
      have s9 : Same H2 H9 := fun b o hb => b9 b o (ne_of_none hb np2) (s8 b o hb)
      clear s8 F8 G8 hb1 hb2 hT b9 b1n b2n
      refine ⟨_, rfl, _, rfl, t, _, _, _, rfl, rfl, SqL.of (s9 _ _ ht2), atI_nat (ttt lt), _, rfl, _, rfl, e, _, _, _, rfl, rfl, SqL.of (s9 _ _ he2), atI_nat (eee hi), (by show 2 ≤ sizeLine; decide), fun b1 nb1 => ?_⟩
      have u1 := same_upd (o := .lst [nv (tk (lat y i)), nv (ek y i)]) nb1
      have hb1 : L2.upd H9 b1 (.lst [nv (tk (lat y i)), nv (ek y i)]) b1 = some (.lst [nv (tk (lat y i)), nv (ek y i)]) := upd_same
      have b1n : b1 ≠ pt ∧ b1 ≠ ph := ⟨G9.ne nb1, F9.ne nb1⟩
      have s6 := s9.trans u1
      have F6 := F9.same u1
      have G6 := G9.same u1
      generalize L2.upd H9 b1 (.lst [nv (tk (lat y i)), nv (ek y i)]) = H6 at s6 F6 G6 hb1 ⊢
      clear u1 nb1 s9 F9 G9
      refine ⟨_, rfl, _, rfl, e, _, _, _, rfl, rfl, SqL.of (s6 _ _ he2), atI_nat (eee hi), _, rfl, _, rfl, e, _, _, _, rfl, rfl, SqL.of (s6 _ _ he2), atI_nat (eee hi), (by show 2 ≤ sizeLine; decide), fun b2 nb2 => ?_⟩
      have u1 := same_upd (o := .lst [nv (ek y i), nv (ek y i)]) nb2
      have hb2 : L2.upd H6 b2 (.lst [nv (ek y i), nv (ek y i)]) b2 = some (.lst [nv (ek y i), nv (ek y i)]) := upd_same
      have b2n : b2 ≠ pt ∧ b2 ≠ ph := ⟨G6.ne nb2, F6.ne nb2⟩
      have s7 := s6.trans u1
      have F7 := F6.same u1
      have G7 := G6.same u1
      have hb1 := u1 _ _ hb1
      generalize L2.upd H6 b2 (.lst [nv (ek y i), nv (ek y i)]) = H7 at s7 F7 G7 hb1 hb2 ⊢
      clear u1 nb2 s6 F6 G6
      refine ⟨(by show 2 ≤ sizeLine; decide), fun T nT => ?_⟩
      have u1 := same_upd (o := .tup [.ref b1, .ref b2]) nT
      have hT : L2.upd H7 T (.tup [.ref b1, .ref b2]) T = some (.tup [.ref b1, .ref b2]) := upd_same
      have s8 := s7.trans u1
      have F8 := F7.same u1
      have G8 := G7.same u1
      have hb1 := u1 _ _ hb1
      have hb2 := u1 _ _ hb2
      generalize L2.upd H7 T (.tup [.ref b1, .ref b2]) = H8 at s8 F8 G8 hb1 hb2 hT ⊢
      clear u1 nT
      refine put_two (c := 5) (r1 := [tk (lat y i), ek y i]) (r2 := [ek y i, ek y i]) rfl rfl rfl rfl hi rfl (s8 _ _ ht2) (s8 _ _ he2) hT G8 F8 (Ne.symm npt) tq eq hb1 hb2 b1n b2n (by rw [Ass.there_at (tk_lt hi), (tx_tk y4 hi).1, (tx_tk y4 hi).2]) (by rw [Ass.there_at (ek_lt hi), (tx_ek y4 hi).1, (tx_ek y4 hi).2]) Sub fun H9 b9 G9 F9 => ?_
      exact ⟨_, _, rfl, fun b o hb => b9 b o (ne_of_none hb nt2) (s8 b o hb), F9, G9⟩
    · subst eσ
      refine ⟨_, rfl, _, rfl, (by show 2 ≤ sizeLine; decide), fun T nT => ?_⟩
      have u1 := same_upd (o := .tup [.ref ph, .ref pt]) nT
      have all : ∀ i, i < 2 * y → ∃ k, k < y ∧ (i = tk k ∨ i = ek y k) := fun i hi => cover y4 hi
      exact k T ph pt _ (((s1.trans s2).trans s5).trans u1) upd_same ((F5.same u1).done (by unfold Ass.hereR; rw [List.length_map, List.length_range]) all) ((G5.same u1).done (by unfold Ass.thereR; rw [List.length_map, List.length_range]) all)
end
end K16

set_option Elab.async false
set_option linter.all false
set_option maxRecDepth 100000
set_option maxHeartbeats 8000000
namespace K16
open PySem PySem.Spec PyProof.Rows L2 Lf
abbrev NFr : List Str := ["_law_many", "_law_here", "_law_there", "_law_monoid", "_law_other", "_law_last", "_law_ring", "_law_step"]
abbrev teSt : TE := tLst (tCons (tOp (rI0 fun i j => .int (i + j)) (tVar 7) (tC (.int 1))) tNil)
theorem ring_e {K : PySem.W.Frag} {y last : Nat} {v1 v2 v3 v4 v6 : Option V} {H : Hp} {Q : V → Hp → Prop} (y4 : 4 ≤ y) (y1 : y ≤ 1000) (hl : last < 2 * y) (k : ∀ r H', Same H H' → RowsL K H' r (Ass.ringR (2 * y) last) → Q (.ref r) H') :
    tOp (rCatL K) (tLc (iRng1 (tCons (tOp (rI0 fun i j => V.int (i - j)) (tOp (rI CMul fun i j => V.int (i * j)) (tC (.int 2)) (tVar 0)) (tC (.int 1))) tNil)) (gName 7) tYes teSt [7]) (tLst (tCons (tLst (tCons (tVar 5) tNil)) tNil)) [some (.int (y : Nat)), v1, v2, v3, v4, some (nv last), v6, none] H Q := by
  refine ⟨_, rfl, _, _, rfl, rfl, .inl ⟨by decide, by decide⟩, _, _, rfl, rfl, _, rfl, by omega, by omega, fun D nD => ?_⟩
  have en : (2 * ((y : Nat) : Int) - 1).toNat = 2 * y - 1 := by omega
  rw [en]
  refine lc_range (lo := 0) (n := 2 * y - 1) (fun k Hd => But D H Hd ∧ ∃ as : List Addr, Hd D = some (.lst (as.map V.ref)) ∧ as.length = k ∧ ∀ (i : Nat) b, as[i]? = some b → b ≠ D ∧ Hd b = some (.lst [nv (i + 1)])) ⟨But.upd, [], upd_same, rfl, fun i b h => by simp at h⟩ (fun k Hd hk ⟨bd, as, hD, lA, eA⟩ => ?_) (fun Hd ⟨bd, as, hD, lA, eA⟩ => ?_)
  · refine ⟨rfl, yesT ?_⟩
    refine ⟨_, rfl, _, _, rfl, rfl, (by show 1 ≤ sizeLine; decide), fun t1 nt1 => ?_⟩
    have ek : ((0 : Int) + (k : Nat)) + 1 = ((k + 1 : Nat) : Int) := by omega
    have u1 := same_upd (o := .lst [V.int ((0 : Int) + (k : Nat) + 1)]) nt1
    have ntD : t1 ≠ D := fun z => by rw [z, hD] at nt1; cases nt1
    refine ⟨_, u1 _ _ hD, by rw [List.length_map, lA]; show k < 16777216; omega, bd.trans ((But.of u1).trans But.upd), as ++ [t1], by rw [upd_same]; simp, by simp [lA], fun i b h => ?_⟩
    rcases Mon.snoc_cases h with h | ⟨e1, rfl⟩
    · obtain ⟨q1, q2⟩ := eA i b h
      exact ⟨q1, by rw [upd_ne q1]; exact u1 _ _ q2⟩
    · refine ⟨ntD, ?_⟩
      rw [e1, lA, upd_ne ntD, upd_same]
      exact congrArg (fun z => some (HO.lst [V.int z])) ek
  · refine ⟨_, rfl, (by show 1 ≤ sizeLine; decide), fun s1 ns1 => ⟨(by show 1 ≤ sizeLine; decide), fun s2' ns2 => ?_⟩⟩
    have v1' := same_upd (o := .lst [nv last]) ns1
    have v2' := same_upd (o := .lst [V.ref s1]) ns2
    refine ⟨D, s2', _, _, rfl, rfl, SqL.of (v2' _ _ (v1' _ _ hD)), SqL.of upd_same, by rw [List.length_map, lA]; show 2 * y - 1 + 1 ≤ 16777216; omega, fun r nr => ?_⟩
    have v3' := same_upd (o := .lst (as.map V.ref ++ [V.ref s1])) nr
    have sH : Same H Hd := fun b o e => bd b o (ne_of_none e nD) e
    refine k r _ (((sH.trans v1').trans v2').trans v3') ⟨as ++ [s1], SqL.of (by rw [upd_same]; simp), by rw [List.length_append, lA, Ass.ring_len]; show 2 * y - 1 + 1 = 2 * y; omega, fun i b row g1 g2 => ?_⟩
    rcases Mon.snoc_cases g1 with g1 | ⟨e1, rfl⟩
    · have il : i < 2 * y - 1 := by have := get_lt g1; omega
      rw [Ass.ring_at (by omega)] at g2
      cases g2
      have e : Ass.rg (2 * y) last i = i + 1 := if_pos (by omega)
      rw [e]
      exact SqL.of (v3' _ _ (v2' _ _ (v1' _ _ (eA i b g1).2)))
    · rw [e1, lA, Ass.ring_at (by omega)] at g2
      cases g2
      have e : Ass.rg (2 * y) last (2 * y - 1) = last := if_neg (by omega)
      rw [e]
      exact SqL.of (v3' _ _ (v2' _ _ upd_same))
def spFarR : Sp := fun vs H Q _ => ∃ y : Nat, vs = [.int (y : Nat)] ∧ 4 ≤ y ∧ y ≤ 1000 ∧ ∀ H', Same H H' → Q (.bl true) H'
theorem tns_id {rows : List (List Nat)} {m : List (Nat × Nat)} {N : Nat} (e : rows.length = N) (h : ∀ x, x < N → Ass.tn rows m x = x) : tns rows m = List.range N := by
  unfold tns
  rw [e]
  exact (List.map_congr_left fun x hx => h x (List.mem_range.mp hx)).trans (List.map_id _)
section
variable {P : Program} {w : World} {K : PySem.W.Frag} {mg : Str → Option Value} {base : Heap}
theorem scFr : FnScope NFr ["_law_many"] (defScope s_L_far_right) := ⟨rfl, rfl, rfl, by decide +kernel, rfl, by decide +kernel, by decide +kernel⟩
theorem ok_farR {f : Addr} {fd : FuncData} {q : Str} (F : FunD K "_law_far_right" q (defArgs s_L_far_right) (defBody s_L_far_right) (defScope s_L_far_right) [] [] f fd) (T : Txt P w K mg base)
    (DF : Def P w K mg base CX0 1 "_law_far_tables" ["_law_many"] (spFar K)) (MO : DefM P w K mg base CX0 7 "opposite" ["self"] (spOpp K)) (MT : DefM P w K mg base CX0 3 "turned" ["self"] (spTurned K))
    {fM : Addr} {fdM : FuncData} (mM : Mk K (He.ga K "Monoid") fM) (FM : FnOk P w K mg base CX0 4 fM fdM ["self", "right"] (spMon K)) (bM : Binds K fdM ["self", "right"] [])
    {fe : Addr} {fde : FuncData} (mE : Meth K (He.ga K "Monoid") "__eq__" fe) (FE : FnOk P w K mg base CX0 1 fe fde ["self", "other"] (spEq K)) (bE : Binds K fde ["self", "other"] []) :
    FnG P w K mg base CX0 8 f fd ["_law_many"] spFarR := by
  have cl : L2.Cls K (He.ga K "Monoid") := He.cls_ok (T.d.fact 49 (f := .cls "Monoid") rfl)
  have zr : mg "range" = none := T.fr 44 "range" rfl
  have zt : mg "tuple" = none := T.fr 47 "tuple" rfl
  have zR : mg "repr" = none := T.fr 45 "repr" rfl
  have oe : OwnEq K (He.ga K "Monoid") fe := (T.ops (x := "Monoid") (by decide)).eq mE
  obtain ⟨fo, fdo, mo_, Fo, bo⟩ := MO.ex
  obtain ⟨ft, fdt, mt_, Ft, bt⟩ := MT.ex
  refine okG F scFr (fun vs H Q E h => ?_) (fun cdv A outer s H vs Q E hgd hr h => ?_)
  · obtain ⟨y, rfl, _⟩ := h
    rfl
  · obtain ⟨y, rfl, y4, y1, k⟩ := h
    have R1 : Room 1 _ := hr.mono (by decide)
    have R2 : Room 2 _ := hr.mono (by decide)
    have R3 : Room 3 _ := hr.mono (by decide)
    have R5 : Room 5 _ := hr.mono (by decide)
    have hu : (A.deeper (envOfC q (defScope s_L_far_right) s.heap.objs.size f cdv)).units + 64 < cLine := hr.units
    have hu9 : (A.deeper (envOfC q (defScope s_L_far_right) s.heap.objs.size f cdv)).units + 9 < cLine := by omega
    refine ⟨_, PSs.nox (pss_cons (ps_asg (pe_def DF R1 pass0 rfl (pa_cons (pv 0) pa_nil)) (pg_tup rfl (pgs_cons (pg_name (i := 1) scFr.nd rfl (.inl rfl)) (pgs_cons (pg_name (i := 2) scFr.nd rfl (.inl rfl)) pgs_nil))))
      (pss_cons (ps_par (i := 3) (j := 4) rfl scFr.nd rfl rfl (by decide) rfl rfl (pa_cons (pe_make mM FM R5 rfl (T.gl 4 "Monoid" rfl) bM .nil pass0 (pa_cons (pv 1) pa_nil)) (pa_cons (pe_make mM FM R5 rfl (T.gl 4 "Monoid" rfl) bM .nil pass0 (pa_cons (pv 2) pa_nil)) pa_nil)) (by rfl))
      (pss_cons (ps_if (PW.pt (pw_or (pt_cmpR (op_ownNe oe FE R2 bE pass0) (pe_meth0 (pv 3) cl mo_ Fo hr bo .nil pass0) (pv 4) (nomark _)) (pw_or1 (pt_cmpR (op_ownNe oe FE R2 bE pass0) (pe_meth0 (pv 4) cl mo_ Fo hr bo .nil pass0) (pv 3) (nomark _))))) (pss_one (ps_ret pe_bl)) pss_nil)
      (pss_cons (ps_if (PW.pt (pw_or (pt_cmpR op_ne (pe_callB (call_reprD (by exact hgd) (by exact hu9)) rfl zR boot_repr (pa_cons (pe_meth0 (pv 3) cl mt_ Ft R3 bt .nil pass0) pa_nil)) (pe_callB (call_reprD (by exact hgd) (by exact hu9)) rfl zR boot_repr (pa_cons (pe_tupRg rfl rfl zt (prg_1 rfl zr (pe_op op_mul pe_int (pv 0)))) pa_nil)) (nomark _))
          (pw_or1 (pt_cmpR op_ne (pe_callB (call_reprD (by exact hgd) (by exact hu9)) rfl zR boot_repr (pa_cons (pe_meth0 (pv 4) cl mt_ Ft R3 bt .nil pass0) pa_nil)) (pe_callB (call_reprD (by exact hgd) (by exact hu9)) rfl zR boot_repr (pa_cons (pe_meth0 (pv 3) cl mt_ Ft R3 bt .nil pass0) pa_nil)) (nomark _))))) (pss_one (ps_ret pe_bl)) pss_nil)
      (pss_cons (ps_for PassesOwn.never rfl (pi_tup (pe_tup (pa_cons pe_int (pa_cons (pe_op op_fdivNN (pv 0) pe_int) (pa_cons (pe_op op_sub (pe_op op_mul pe_int (pv 0)) pe_int) pa_nil))))) (pg_name (i := 5) scFr.nd rfl (.inl rfl))
        (pss_cons (ps_set (i := 6) scFr.nd rfl (.inl rfl) (pe_make mM FM R5 rfl (T.gl 4 "Monoid" rfl) bM .nil pass0 (pa_cons (pe_op op_catL (pe_lc (own := [("_law_step", 7)]) (g := gName 7) (te := teSt) (by rfl) scFr.nd (pi_range1 rfl zr (pa_cons (pe_op op_sub (pe_op op_mul pe_int (pv 0)) pe_int) pa_nil)) (blkOk_by (own := [("_law_step", 7)]) (N := NFr) (sc := defScope s_L_far_right) (by decide +kernel)) (fun _ _ _ _ _ => pg_name (i := 7) scFr.nd rfl (Or.inl rfl)) (fun _ _ _ _ _ => pts_nil)
            (fun _ _ _ _ _ => by exact pe_lst (pa_cons (pe_op op_add (pv 7) pe_int) pa_nil))) (pe_lst (pa_cons (pe_lst (pa_cons (pv 5) pa_nil)) pa_nil))) pa_nil)))
        (pss_one (ps_if (PW.pt (pw_or (pt_cmpR (op_ownNe oe FE R2 bE pass0) (pe_meth0 (pv 6) cl mo_ Fo hr bo .nil pass0) (pv 6) (nomark _)) (pw_or1 (pt_cmpR op_ne (pe_callB (call_reprD (by exact hgd) (by exact hu9)) rfl zR boot_repr (pa_cons (pe_meth0 (pv 6) cl mt_ Ft R3 bt .nil pass0) pa_nil)) (pe_callB (call_reprD (by exact hgd) (by exact hu9)) rfl zR boot_repr (pa_cons (pe_meth0 (pv 3) cl mt_ Ft R3 bt .nil pass0) pa_nil)) (nomark _))))) (pss_one (ps_ret pe_bl)) pss_nil))))
      (pss_one (ps_ret pe_bl))))))), ?_⟩
    refine ⟨_, rfl, y, rfl, y4, y1, fun T0 ph pt H1 s1 hT0 R1 R2 => ?_⟩
    refine ⟨T0, _, rfl, SqT.of hT0, rfl, _, _, rfl, _, _, rfl, rfl, ?_⟩
    obtain ⟨m, m', MD, MD', eo, eo', tn, tn'⟩ := Ass.far_ok (N := 2 * y) (by omega) (by omega) (by omega)
    refine ⟨_, rfl, fun pm dx npm ndx xdx => mk_mon R1 MD npm ndx xdx fun H2 s2 M2 => ?_⟩
    refine ⟨_, rfl, fun pm' dx' npm' ndx' xdx' => mk_mon (R2.same s2) MD' npm' ndx' xdx' fun H3 s3 M3' => ?_⟩
    have M3 := M2.same s3
    have s03 := (s1.trans s2).trans s3
    refine ⟨_, _, rfl, ?_⟩
    show tSeq _ _ _ [some (.int (y : Nat)), some (.ref ph), some (.ref pt), some (.ref pm), some (.ref pm'), none, none, none] H3
    clear s1 s2 s3 M2 R1 R2 hT0
    have hme := MD.made
    have hme' := MD'.made
    have e1 : tns (Ass.hereR (2 * y)) m = List.range (2 * y) := tns_id Ass.here_len tn
    have e2 : tns (Ass.thereR (2 * y)) m' = List.range (2 * y) := tns_id Ass.there_len tn'
    obtain ⟨r1, r2, r3, r4⟩ := repr_dI (x := List.range (2 * y)) (fun n hn => by have := List.mem_range.mp hn; omega) (by rw [List.length_range]; omega)
    obtain ⟨dx3, _, _, _, hp3, _⟩ := id M3.ex
    refine ⟨_, rfl, pm, dx3, _, rfl, hp3, rfl, pm, _, _, m, m', rfl, M3, MD, by rw [eo]; exact hme', fun po H4 _ s4 M4 => ?_⟩
    rw [eo] at M4
    refine ⟨_, rfl, mo_neD T M4 (M3'.same s4) ⟨_, rfl, ifF (by simp) ?_⟩⟩
    have N4 := M3'.same s4
    have O4 := M3.same s4
    have s04 := s03.trans s4
    clear M4 s4 M3 M3' hp3 s03
    obtain ⟨dx4, _, _, _, hp4, _⟩ := id N4.ex
    refine ⟨_, rfl, pm', dx4, _, rfl, hp4, rfl, pm', _, _, m', m, rfl, N4, MD', by rw [eo']; exact hme, fun po H5 _ s5 M5 => ?_⟩
    rw [eo'] at M5
    refine ⟨_, rfl, mo_neD T M5 (O4.same s5) ⟨_, rfl, ifF (by simp) ?_⟩⟩
    have N5 := N4.same s5
    have O5 := O4.same s5
    have s05 := s04.trans s5
    clear M5 s5 N4 O4 hp4 s04
    -- the numbers
    try delta tNext
    dsimp only
    show tSeq _ _ _ [some (.int (y : Nat)), some (.ref ph), some (.ref pt), some (.ref pm), some (.ref pm'), none, none, none] H5
    obtain ⟨dx5, _, _, _, hp5, _⟩ := id O5.ex
    refine ⟨_, rfl, pm, dx5, _, rfl, hp5, rfl, pm, _, _, m, rfl, O5, MD, fun t H6 s6 ht => ?_⟩
    rw [e1] at ht
    refine ⟨.ref t, dI (List.range (2 * y)), rfl, dpI (SqT.of ht), r1, r2, r3, r4, ?_⟩
    refine ⟨_, rfl, _, _, rfl, rfl, .inl ⟨by decide, by decide⟩, ((2 * y : Nat) : Int), congrArg V.int (by omega), ⟨by decide, by decide, by omega, by omega, by omega⟩, fun i0 ni0 => ?_⟩
    rw [rgV_nv, show Mon.idm (2 * y) = List.range (2 * y) from rfl]
    have u7 := same_upd (o := .tup ((List.range (2 * y)).map nv)) ni0
    have hi0 : L2.upd H6 i0 (.tup ((List.range (2 * y)).map nv)) i0 = some (.tup ((List.range (2 * y)).map nv)) := upd_same
    refine ⟨.ref i0, dI (List.range (2 * y)), rfl, dpI (SqT.of hi0), r1, r2, r3, r4, rfl, _, rfl, ifF (by simp) ?_⟩
    have s57 := s6.trans u7
    generalize L2.upd H6 i0 (.tup ((List.range (2 * y)).map nv)) = H7 at s57 ⊢
    have N7 := N5.same s57
    have O7 := O5.same s57
    have s07 := s05.trans s57
    clear s6 u7 ht hi0 ni0 s57 N5 O5 s05 hp5
    obtain ⟨dx7, _, _, _, hp7, _⟩ := id N7.ex
    refine ⟨_, rfl, pm', dx7, _, rfl, hp7, rfl, pm', _, _, m', rfl, N7, MD', fun t H8 s8 ht => ?_⟩
    rw [e2] at ht
    refine ⟨.ref t, dI (List.range (2 * y)), rfl, dpI (SqT.of ht), r1, r2, r3, r4, ?_⟩
    have O8 := O7.same s8
    have s08 := s07.trans s8
    clear N7 O7 hp7 s8 s07 ht
    obtain ⟨dx8, _, _, _, hp8, _⟩ := id O8.ex
    refine ⟨_, rfl, pm, dx8, _, rfl, hp8, rfl, pm, _, _, m, rfl, O8, MD, fun t H9 s9 ht => ?_⟩
    rw [e1] at ht
    refine ⟨.ref t, dI (List.range (2 * y)), rfl, dpI (SqT.of ht), r1, r2, r3, r4, rfl, _, rfl, ifF (by simp) ?_⟩
    have O9 := O8.same s9
    have s09 := s08.trans s9
    clear O8 hp8 s9 s08 ht
    -- rings
    try delta tNext
    dsimp only
    show tSeq _ _ _ [some (.int (y : Nat)), some (.ref ph), some (.ref pt), some (.ref pm), some (.ref pm'), none, none, none] H9
    refine ⟨_, rfl, y, 3, rfl, rfl, ⟨by decide, by decide⟩, _, rfl, _, _, rfl, rfl, .inl ⟨by decide, by decide⟩, _, _, rfl, rfl, (by show 3 ≤ sizeLine; decide), fun tt ntt => ?_⟩
    have u10 := same_upd (o := .tup [.int ((0 : Nat) : Int), .int ((y / 3 : Nat) : Int), .int (2 * ((y : Nat) : Int) - 1)]) ntt
    have htt : L2.upd H9 tt (.tup [.int ((0 : Nat) : Int), .int ((y / 3 : Nat) : Int), .int (2 * ((y : Nat) : Int) - 1)]) tt = some (.tup [.int ((0 : Nat) : Int), .int ((y / 3 : Nat) : Int), .int (2 * ((y : Nat) : Int) - 1)]) := upd_same
    refine ⟨tt, rfl, ⟨_, SqT.of htt⟩, ?_⟩
    have O10 := O9.same u10
    have s010 := s09.trans u10
    generalize L2.upd H9 tt (.tup [.int ((0 : Nat) : Int), .int ((y / 3 : Nat) : Int), .int (2 * ((y : Nat) : Int) - 1)]) = H10 at htt O10 s010 ⊢
    clear u10 O9 s09 ntt
    refine for_tup (K := K) (a := tt) (xs := [.int ((0 : Nat) : Int), .int ((y / 3 : Nat) : Int), .int (2 * ((y : Nat) : Int) - 1)]) (fun i σ Hn => ∃ v5 v6 : Option V, σ = [some (.int (y : Nat)), some (.ref ph), some (.ref pt), some (.ref pm), some (.ref pm'), v5, v6, none] ∧ Same H10 Hn) ⟨none, none, rfl, L2.Same.refl _⟩ (fun i σ Hn _ ⟨_, _, _, e⟩ => SqT.of (e _ _ htt)) (fun i z σ Hn hz ⟨v5, v6, eσ, sn⟩ => ?_) (fun σ Hn ⟨v5, v6, eσ, sn⟩ => ?_)
    · subst eσ
      obtain ⟨last, hl, rfl⟩ : ∃ last : Nat, last < 2 * y ∧ z = nv last := by
        have := List.mem_of_getElem? hz
        simp only [List.mem_cons, List.not_mem_nil, or_false] at this
        rcases this with rfl | rfl | rfl
        · exact ⟨0, by omega, rfl⟩
        · exact ⟨y / 3, by omega, rfl⟩
        · exact ⟨2 * y - 1, by omega, congrArg V.int (by omega)⟩
      obtain ⟨mr, MR, er, tr⟩ := Ass.ring_ok (N := 2 * y) (last := last) (by omega) (by omega) hl
      have e3 : tns (Ass.ringR (2 * y) last) mr = List.range (2 * y) := tns_id Ass.ring_len tr
      show tSeq _ _ _ [some (.int (y : Nat)), some (.ref ph), some (.ref pt), some (.ref pm), some (.ref pm'), some (nv last), v6, none] Hn
      refine ring_e (K := K) y4 y1 hl fun r H11 s11 R11 => ?_
      refine fun pr dr npr ndr xdr => mk_mon R11 MR npr ndr xdr fun H12 s12 M12 => ?_
      have O12 := ((O10.same sn).same s11).same s12
      have s012 := (sn.trans s11).trans s12
      obtain ⟨dx12, _, _, _, hp12, _⟩ := id M12.ex
      refine ⟨_, rfl, pr, dx12, _, rfl, hp12, rfl, pr, _, _, mr, mr, rfl, M12, MR, by rw [er]; exact MR.made, fun po H13 _ s13 M13 => ?_⟩
      rw [er] at M13
      refine ⟨_, rfl, mo_neD T M13 (M12.same s13) ⟨_, rfl, ifF (by simp) ?_⟩⟩
      have M14 := M12.same s13
      have O14 := O12.same s13
      have s014 := s012.trans s13
      clear M13 s13 M12 O12 s012 hp12
      obtain ⟨dx14, _, _, _, hp14, _⟩ := id M14.ex
      refine ⟨_, rfl, pr, dx14, _, rfl, hp14, rfl, pr, _, _, mr, rfl, M14, MR, fun t H15 s15 ht => ?_⟩
      rw [e3] at ht
      refine ⟨.ref t, dI (List.range (2 * y)), rfl, dpI (SqT.of ht), r1, r2, r3, r4, ?_⟩
      have O15 := O14.same s15
      obtain ⟨dx15, _, _, _, hp15, _⟩ := id O15.ex
      refine ⟨_, rfl, pm, dx15, _, rfl, hp15, rfl, pm, _, _, m, rfl, O15, MD, fun t H16 s16 ht => ?_⟩
      rw [e1] at ht
      refine ⟨.ref t, dI (List.range (2 * y)), rfl, dpI (SqT.of ht), r1, r2, r3, r4, rfl, _, rfl, ifF (by simp) ?_⟩
      exact ⟨_, _, rfl, (s014.trans s15).trans s16⟩
    · subst eσ
      exact k _ (s010.trans sn)
end
end K16

set_option Elab.async false
set_option linter.all false
set_option maxRecDepth 100000
set_option maxHeartbeats 8000000
namespace K16
open PySem PySem.Spec PyProof.Rows L2 Lf
theorem cut_pos {xs : List V} (h : 1 ≤ xs.length) : 1 ≤ (cutV xs none (some 3)).length := by
  unfold cutV
  rw [List.length_take, List.length_drop]
  unfold HT.sIx
  simp
  omega
theorem maps_of {H : Hp} {p : Addr} {as : List Addr} {gens : List (List Nat)} (hp : H p = some (.lst (as.map V.ref))) (l : as.length = gens.length) (e : ∀ (i : Nat) a row, as[i]? = some a → gens[i]? = some row → H a = some (.tup (row.map nv))) : Maps H p gens := ⟨⟨as, hp, l, e⟩⟩
theorem maps3 {H : Hp} {p a b c : Addr} {x y z : List Nat} (hp : H p = some (.lst [.ref a, .ref b, .ref c])) (ha : H a = some (.tup (x.map nv))) (hb : H b = some (.tup (y.map nv))) (hc : H c = some (.tup (z.map nv))) : Maps H p [x, y, z] :=
  ⟨⟨[a, b, c], hp, rfl, fun i u row g1 g2 => by
    match i with
    | 0 => cases g1; cases g2; exact ha
    | 1 => cases g1; cases g2; exact hb
    | 2 => cases g1; cases g2; exact hc
    | i + 3 => simp at g1⟩⟩
theorem maps4 {H : Hp} {p a b c d : Addr} {x y z u : List Nat} (hp : H p = some (.lst [.ref a, .ref b, .ref c, .ref d])) (ha : H a = some (.tup (x.map nv))) (hb : H b = some (.tup (y.map nv))) (hc : H c = some (.tup (z.map nv))) (hd : H d = some (.tup (u.map nv))) : Maps H p [x, y, z, u] :=
  ⟨⟨[a, b, c, d], hp, rfl, fun i v row g1 g2 => by
    match i with
    | 0 => cases g1; cases g2; exact ha
    | 1 => cases g1; cases g2; exact hb
    | 2 => cases g1; cases g2; exact hc
    | 3 => cases g1; cases g2; exact hd
    | i + 4 => simp at g1⟩⟩
abbrev NLw : List Str := ["_law_script", "_law_cell", "_law_source_here", "_law_turn", "_law_rows"]
def spLaw (K : PySem.W.Frag) : Sp := fun vs H Q _ => ∃ (a : Addr) (ns : List Int), vs = [.ref a] ∧ SqL K H a (ns.map V.int) ∧ ns.length ≤ 63 ∧ ∀ H', Q (.bl true) H'
def g3 : List (List Nat) := [[1, 0, 2], [1, 1, 2], [2, 1, 0]]
def g4 : List (List Nat) := [[1, 0, 2], [1, 1, 2], [0, 1, 2], [1, 0, 2]]
theorem vd3 : ∀ g ∈ g3, Mon.Valid 3 g := by
  intro g hg
  unfold g3 at hg
  simp only [List.mem_cons, List.not_mem_nil, or_false] at hg
  rcases hg with rfl | rfl | rfl <;> exact ⟨rfl, by decide⟩
theorem vd4 : ∀ g ∈ g4, Mon.Valid 3 g := by
  intro g hg
  unfold g4 at hg
  simp only [List.mem_cons, List.not_mem_nil, or_false] at hg
  rcases hg with rfl | rfl | rfl | rfl <;> exact ⟨rfl, by decide⟩
theorem far_pick {k : Int} (h0 : 0 ≤ k) (h4 : k < 4) : ∃ y : Nat, 4 ≤ y ∧ y ≤ 1000 ∧ atI [V.int 7, V.int 150, V.int 300, V.int 1000] k = some (.int (y : Nat)) := by
  have : k = 0 ∨ k = 1 ∨ k = 2 ∨ k = 3 := by omega
  rcases this with rfl | rfl | rfl | rfl
  · exact ⟨7, by decide, by decide, rfl⟩
  · exact ⟨150, by decide, by decide, rfl⟩
  · exact ⟨300, by decide, by decide, rfl⟩
  · exact ⟨1000, by decide, by decide, rfl⟩
theorem first_int {ns : List Int} : ∃ n : Int, atI (ns.map V.int ++ [.int 0]) 0 = some (.int n) := by
  cases ns with
  | nil => exact ⟨0, rfl⟩
  | cons n ns =>
    refine ⟨n, atI_nat (j := 0) ?_⟩
    rfl
theorem turns_left (j : Nat) : ∃ ml : Nat, 1 ≤ ml ∧ ml ≤ 6 ∧ ((3 : Int) - (if decide (V.int ((0 : Int) + (j : Nat)) = V.int 0) = true then (1 : Int) else 0)) = (ml : Int) := by
  by_cases c : decide (V.int ((0 : Int) + (j : Nat)) = V.int 0) = true
  · exact ⟨2, by decide, by decide, by rw [if_pos c]; rfl⟩
  · exact ⟨3, by decide, by decide, by rw [if_neg c]; rfl⟩
section
variable {P : Program} {w : World} {K : PySem.W.Frag} {mg : Str → Option Value} {base : Heap}
theorem scLaw : FnScope NLw ["_law_script"] (defScope s_law) := ⟨rfl, rfl, rfl, by decide +kernel, rfl, by decide +kernel, by decide +kernel⟩
theorem ok_law {f : Addr} {fd : FuncData} {q : Str} (F : FunD K "law" q (defArgs s_law) (defBody s_law) (defScope s_law) [] [] f fd) (T : Txt P w K mg base)
    (DS : Def P w K mg base CX0 1 "_law_source" ["_law_cell"] spSource) (DD : Def P w K mg base CX0 1 "_law_draw" ["_law_source_here", "_law_many"] spDraw) (DM : Def P w K mg base CX0 2 "_law_maps" ["_law_source_here", "_law_most_points", "_law_most_letters"] spMaps)
    (DR : DefG P w K mg base CX0 8 "_law_right" ["_law_source_here", "_law_rows"] (spRight K)) (DF : DefG P w K mg base CX0 8 "_law_far_right" ["_law_many"] spFarR) :
    FnG P w K mg base CX0 9 f fd ["_law_script"] (spLaw K) := by
  have zr : mg "range" = none := T.fr 44 "range" rfl
  have zI : mg "int" = none := T.fr 40 "int" rfl
  refine okG F scLaw (fun vs H Q E h => ?_) (fun cdv A outer s H vs Q E hgd hr h => ?_)
  · obtain ⟨a, ns, rfl, _⟩ := h
    rfl
  · obtain ⟨a, ns, rfl, hS, hlen, fin⟩ := h
    have R1 : Room 1 _ := hr.mono (by decide)
    have R2 : Room 2 _ := hr.mono (by decide)
    refine ⟨_, PSs.nox (pss_cons (ps_for PassesOwn.never rfl (pi_list (pe_slice sl_list (pe_op op_catL (pv 0) (pe_lst (pa_cons pe_int pa_nil))) po_none (po_some pe_int))) (pg_name (i := 1) scLaw.nd rfl (.inl rfl))
        (pss_cons (ps_set (i := 2) scLaw.nd rfl (.inl rfl) (pe_def DS R1 pass0 rfl (pa_cons (pv 1) pa_nil)))
        (pss_one (ps_for PassesOwn.never rfl (pi_range1 rfl zr (pa_cons pe_int pa_nil)) (pg_name (i := 3) scLaw.nd rfl (.inl rfl))
          (pss_one (ps_if (pt_not (pt_val (pe_defG DR hgd hr pass0 rfl (pa_cons (pv 2) (pa_cons (pe_def DM R2 pass0 rfl (pa_cons (pv 2) (pa_cons pe_int (pa_cons (pe_op op_sub pe_int (pe_callTy call_int1 rfl zI boot_int (pa_cons (pe_cmpR op_eq (pv 3) pe_int (nomark _)) pa_nil))) pa_nil)))) pa_nil))))) (pss_one (ps_ret pe_bl)) pss_nil))))))
      (pss_cons (ps_if (pt_not (pt_val (pe_defG DF hgd hr pass0 rfl (pa_cons (pe_ix ix_list (pe_lst (pa_cons pe_int (pa_cons pe_int (pa_cons pe_int (pa_cons pe_int pa_nil))))) (pe_def DD R1 pass0 rfl (pa_cons (pe_def DS R1 pass0 rfl (pa_cons (pe_ix ix_list (pe_op op_catL (pv 0) (pe_lst (pa_cons pe_int pa_nil))) pe_int (fun _ _ => rfl)) pa_nil)) (pa_cons pe_int pa_nil))) (fun _ _ => rfl)) pa_nil)))) (pss_one (ps_ret pe_bl)) pss_nil)
      (pss_cons (ps_set (i := 4) scLaw.nd rfl (.inl rfl) (pe_lst (pa_cons (pe_tup (pa_cons pe_int (pa_cons pe_int (pa_cons pe_int pa_nil)))) (pa_cons (pe_tup (pa_cons pe_int (pa_cons pe_int (pa_cons pe_int pa_nil)))) (pa_cons (pe_tup (pa_cons pe_int (pa_cons pe_int (pa_cons pe_int pa_nil)))) pa_nil)))))
      (pss_one (ps_ret (pe_and (pe_defG DR hgd hr pass0 rfl (pa_cons (pv 2) (pa_cons (pv 4) pa_nil))) (pe_one (pe_defG DR hgd hr pass0 rfl (pa_cons (pv 2) (pa_cons (pe_op op_catL (pe_slice sl_list (pv 4) po_none (po_some pe_int)) (pe_lst (pa_cons (pe_tup (pa_cons pe_int (pa_cons pe_int (pa_cons pe_int pa_nil)))) (pa_cons (pe_tup (pa_cons pe_int (pa_cons pe_int (pa_cons pe_int pa_nil)))) pa_nil)))) pa_nil)))))))))), ?_⟩
    refine ⟨_, rfl, (by show 1 ≤ sizeLine; decide), fun z hz => ⟨a, z, _, _, rfl, rfl, L2.Same.seq (same_upd hz) hS, SqL.of upd_same, ?_, fun l0 h0 => ?_⟩⟩
    · rw [List.length_map]
      show ns.length + 1 ≤ 16777216
      omega
    refine ⟨3, rfl, l0, _, rfl, SqL.of upd_same, fun l1 h1 => ⟨l1, rfl, ⟨_, SqL.of upd_same⟩, ?_⟩⟩
    have sHs : Same H (L2.upd (L2.upd (L2.upd H z (.lst [.int 0])) l0 (.lst (ns.map V.int ++ [.int 0]))) l1 (.lst (cutV (ns.map V.int ++ [.int 0]) none (some 3)))) := ((same_upd hz).trans (same_upd h0)).trans (same_upd h1)
    have at1 : L2.upd (L2.upd (L2.upd H z (.lst [.int 0])) l0 (.lst (ns.map V.int ++ [.int 0]))) l1 (.lst (cutV (ns.map V.int ++ [.int 0]) none (some 3))) l1 = some (.lst (cutV (ns.map V.int ++ [.int 0]) none (some 3))) := upd_same
    generalize L2.upd (L2.upd (L2.upd H z (.lst [.int 0])) l0 (.lst (ns.map V.int ++ [.int 0]))) l1 (.lst (cutV (ns.map V.int ++ [.int 0]) none (some 3))) = Hs at at1 sHs ⊢
    clear h1 h0 hz
    have lc := cut_pos (xs := ns.map V.int ++ [.int 0]) (by rw [List.length_append]; exact Nat.le_add_left _ _)
    refine for_list (K := K) (a := l1) (xs := cutV (ns.map V.int ++ [.int 0]) none (some 3)) (fun i σ H' => ∃ v1 v2 v3 : Option V, σ = [some (.ref a), v1, v2, v3, none] ∧ Same Hs H' ∧ (1 ≤ i → ∃ l n, v2 = some (.ref l) ∧ Src H' l n ∧ n ≤ 1000 ∧ Hs l = none))
      ⟨none, none, none, rfl, L2.Same.refl _, fun h => absurd h (by decide)⟩ (fun i σ H' _ ⟨_, _, _, _, e, _⟩ => SqL.of (e _ _ at1)) ?_ (fun σ H' ⟨v1, v2, v3, eσ, e', sr⟩ => ?_)
    · rintro i y σ H1 hi ⟨v1, v2, v3, rfl, e1, _⟩
      obtain ⟨n, rfl⟩ : ∃ n, y = V.int n := by
        have hm := List.mem_of_getElem? hi
        have hm2 := List.mem_of_mem_drop (List.mem_of_mem_take hm)
        rcases List.mem_append.mp hm2 with q | q
        · obtain ⟨n, _, e⟩ := List.mem_map.mp q
          exact ⟨n, e.symm⟩
        · exact ⟨0, List.mem_singleton.mp q⟩
      refine ⟨_, rfl, n, rfl, fun l H2 nl s2 src2 => ?_⟩
      have e2 : Same Hs H2 := e1.trans s2
      have nls : Hs l = none := nil_of e1 nl
      have off : ∀ b o, Hs b = some o → b ≠ l := fun b o h => ne_of_none h nls
      refine ⟨3, rfl, by decide, by decide, ?_⟩
      refine for_range (lo := 0) (n := 3) (fun j σ H' => ∃ v3 : Option V, σ = [some (.ref a), some (.int n), some (.ref l), v3, none] ∧ Same Hs H' ∧ Src H' l (100 * j)) ⟨v3, rfl, e2, src2⟩ (fun j σ H3 hj ⟨v3, eσ, e3, src3⟩ => ?_) (fun σ H3 ⟨v3, eσ, e3, src3⟩ => ?_)
      · subst eσ
        obtain ⟨ml, m1, m6, em⟩ := turns_left j
        refine ⟨_, rfl, _, rfl, _, rfl, rfl, .inr ⟨_, rfl, _, _, rfl, rfl, l, 100 * j, 4, ml, congrArg (fun z => [V.ref l, V.int 4, V.int z]) em, src3, by omega, by decide, by decide, m1, m6, fun p gens size H4 b4 np M4 ne g6 s1 s4 gv src4 => ?_⟩⟩
        refine ⟨l, 100 * j + 40, p, size, gens, rfl, src4, by omega, M4, ne, g6, s1, s4, gv, fun H5 b5 src5 => ?_⟩
        refine ⟨_, rfl, ifF rfl ⟨_, rfl, fun b o e => b5 _ _ (off b o e) (b4 _ _ (off b o e) (e3 _ _ e)), src5.up (by omega)⟩⟩
      · subst eσ
        exact ⟨_, _, _, rfl, e3, fun _ => ⟨l, 300, rfl, src3, by decide, nls⟩⟩
    · subst eσ
      obtain ⟨l, n, rfl, src, le1, nls⟩ := sr lc
      have s1 := sHs.trans e'
      clear sr at1 sHs e'
      obtain ⟨n0, hn0⟩ := first_int (ns := ns)
      refine ⟨(by show 4 ≤ sizeLine; decide), fun b4 nb4 => ?_⟩
      have u1 := same_upd (o := .lst [V.int 7, V.int 150, V.int 300, V.int 1000]) nb4
      have hb4 : L2.upd H' b4 (.lst [V.int 7, V.int 150, V.int 300, V.int 1000]) b4 = some (.lst [V.int 7, V.int 150, V.int 300, V.int 1000]) := upd_same
      have s2 := s1.trans u1
      have src2 := src.same u1
      generalize L2.upd H' b4 (.lst [V.int 7, V.int 150, V.int 300, V.int 1000]) = H2 at hb4 s2 src2 ⊢
      clear u1 nb4 src s1
      refine ⟨_, rfl, (by show 1 ≤ sizeLine; decide), fun z hz => ⟨a, z, _, _, rfl, rfl, (L2.Same.seq (same_upd hz) (L2.Same.seq s2 hS)), SqL.of upd_same, ?_, fun r h0 => ?_⟩⟩
      · rw [List.length_map]
        show ns.length + 1 ≤ 16777216
        omega
      have u3 := (same_upd (o := .lst [V.int 0]) hz).trans (same_upd (o := .lst (ns.map V.int ++ [.int 0])) h0)
      have hr3 : L2.upd (L2.upd H2 z (.lst [V.int 0])) r (.lst (ns.map V.int ++ [.int 0])) r = some (.lst (ns.map V.int ++ [.int 0])) := upd_same
      have s3 := s2.trans u3
      have src3 := src2.same u3
      have hb43 := u3 _ _ hb4
      generalize L2.upd (L2.upd H2 z (.lst [V.int 0])) r (.lst (ns.map V.int ++ [.int 0])) = H3 at hr3 s3 src3 hb43 ⊢
      clear u3 h0 hz s2 src2 hb4
      refine ⟨r, _, 0, _, rfl, rfl, SqL.of hr3, hn0, n0, rfl, fun l2 H4 nl2 s4 srcL => ?_⟩
      refine ⟨l2, 0, 4, rfl, srcL, by decide, by decide, by decide, fun k H5 k0 k4 b5 _ => ?_⟩
      obtain ⟨y, y4, y1, hy⟩ := far_pick k0 k4
      have s35 : Same H3 H5 := fun b o e => b5 b o (ne_of_none e nl2) (s4 b o e)
      refine ⟨b4, _, k, _, rfl, rfl, SqL.of (s35 _ _ hb43), hy, y, rfl, y4, y1, fun H6 s6 => ?_⟩
      refine ⟨_, rfl, ifF rfl ?_⟩
      have src6 := (src3.same s35).same s6
      clear s35 hb43 src3 srcL s4 s6 b5 hr3 nl2 s3 hy hn0
      -- the constant rows
      try delta tNext
      dsimp only
      show tSeq _ _ _ [some (.ref a), v1, some (.ref l), v3, none] H6
      refine ⟨(by show 3 ≤ sizeLine; decide), fun t1 n1 => ⟨(by show 3 ≤ sizeLine; decide), fun t2 n2 => ⟨(by show 3 ≤ sizeLine; decide), fun t3 n3 => ⟨(by show 3 ≤ sizeLine; decide), fun p np => ?_⟩⟩⟩⟩
      have a1 := src6.ne n1
      have e1 := same_upd (o := .tup [V.int 1, V.int 0, V.int 2]) n1
      have srcA := src6.same e1
      have a2 := srcA.ne n2
      have e2 := same_upd (o := .tup [V.int 1, V.int 1, V.int 2]) n2
      have srcB := srcA.same e2
      have e3 := same_upd (o := .tup [V.int 2, V.int 1, V.int 0]) n3
      have srcC := srcB.same e3
      have ap := srcC.ne np
      have e4 := same_upd (o := .lst [V.ref t1, V.ref t2, V.ref t3]) np
      have src7 := srcC.same e4
      have hp : L2.upd (L2.upd (L2.upd (L2.upd H6 t1 (.tup [V.int 1, V.int 0, V.int 2])) t2 (.tup [V.int 1, V.int 1, V.int 2])) t3 (.tup [V.int 2, V.int 1, V.int 0])) p (.lst [V.ref t1, V.ref t2, V.ref t3]) p = some (.lst [V.ref t1, V.ref t2, V.ref t3]) := upd_same
      have A1 : L2.upd H6 t1 (.tup [V.int 1, V.int 0, V.int 2]) t1 = some (.tup [V.int 1, V.int 0, V.int 2]) := upd_same
      have A2 : L2.upd (L2.upd H6 t1 (.tup [V.int 1, V.int 0, V.int 2])) t2 (.tup [V.int 1, V.int 1, V.int 2]) t2 = some (.tup [V.int 1, V.int 1, V.int 2]) := upd_same
      have A3 : L2.upd (L2.upd (L2.upd H6 t1 (.tup [V.int 1, V.int 0, V.int 2])) t2 (.tup [V.int 1, V.int 1, V.int 2])) t3 (.tup [V.int 2, V.int 1, V.int 0]) t3 = some (.tup [V.int 2, V.int 1, V.int 0]) := upd_same
      have h3 := e4 _ _ A3
      have h2 := e4 _ _ (e3 _ _ A2)
      have h1 := e4 _ _ (e3 _ _ (e2 _ _ A1))
      clear A1 A2 A3
      show gName 4 _ _ _ _
      generalize L2.upd (L2.upd (L2.upd (L2.upd H6 t1 (.tup [V.int 1, V.int 0, V.int 2])) t2 (.tup [V.int 1, V.int 1, V.int 2])) t3 (.tup [V.int 2, V.int 1, V.int 0])) p (.lst [V.ref t1, V.ref t2, V.ref t3]) = H7 at hp h1 h2 h3 src7 ⊢
      clear e1 e2 e3 e4 srcA srcB srcC n1 n2 n3 np src6
      refine ⟨_, rfl, _, rfl, l, n, p, 3, g3, rfl, src7, by omega, maps3 hp h1 h2 h3, by decide, by decide, by decide, by decide, vd3, fun H8 b8 src8 => ⟨_, rfl, ifT rfl ?_⟩⟩
      have hp8 := b8 _ _ ap hp
      have h18 := b8 _ _ a1 h1
      have h28 := b8 _ _ a2 h2
      clear hp h1 h2 h3 b8 src7
      refine ⟨_, rfl, _, rfl, 2, rfl, p, _, rfl, SqL.of hp8, fun c nc => ?_⟩
      have e1 := same_upd (o := .lst (cutV [V.ref t1, V.ref t2, V.ref t3] none (some 2))) nc
      refine ⟨(by show 3 ≤ sizeLine; decide), fun t4 n4 => ⟨(by show 3 ≤ sizeLine; decide), fun t5 n5 => ⟨(by show 2 ≤ sizeLine; decide), fun z nz => ?_⟩⟩⟩
      have e2 := same_upd (o := .tup [V.int 0, V.int 1, V.int 2]) n4
      have e3 := same_upd (o := .tup [V.int 1, V.int 0, V.int 2]) n5
      have e4 := same_upd (o := .lst [V.ref t4, V.ref t5]) nz
      have e34 := e3.trans e4
      have e24 := e2.trans e34
      have e14 := e1.trans e24
      refine ⟨c, z, [V.ref t1, V.ref t2], [V.ref t4, V.ref t5], rfl, rfl, SqL.of (e24 _ _ upd_same), SqL.of upd_same, (by show 4 ≤ sizeLine; decide), fun r nr => ?_⟩
      have e5 := same_upd (o := .lst ([V.ref t1, V.ref t2] ++ [V.ref t4, V.ref t5])) nr
      exact ⟨l, n + 60, r, 3, g4, rfl, (src8.same e14).same e5, by omega, maps4 upd_same (e5 _ _ (e14 _ _ h18)) (e5 _ _ (e14 _ _ h28)) (e5 _ _ (e34 _ _ upd_same)) (e5 _ _ (e4 _ _ upd_same)), by decide, by decide, by decide, by decide, vd4, fun H9 _ _ => fin H9⟩
end
end K16

set_option Elab.async false
set_option linter.all false
set_option maxRecDepth 100000
set_option maxHeartbeats 4000000
/-! A head by three kernel runs: the looks, the view, the facts; the facts over the objects at the addresses as. -/
namespace Lf
open PySem PySem.W PySem.Calls PyProof.Rows
/-- classes, dicts, functions and the rest, in this order -/
def isCl : Obj → Bool
  | ⟨_, _, .cls _, _⟩ => true
  | _ => false
def isDi : Obj → Bool
  | ⟨_, _, .dict _ _, _⟩ => true
  | _ => false
def isFu : Obj → Bool
  | ⟨_, _, .func _, _⟩ => true
  | _ => false
def isFi : Obj → Bool
  | ⟨_, _, .fields vs, _⟩ => !vs.isEmpty
  | _ => false
/-- tuples: the defaults of defs -/
def isTu : Obj → Bool
  | ⟨.type "tuple", _, .seq _ _, _⟩ => true
  | _ => false
def sorted4 (l : Frag) : Frag := l.filter (fun q => isCl q.2) ++ (l.filter (fun q => isDi q.2) ++ (l.filter (fun q => isFu q.2) ++ (l.filter (fun q => isFi q.2) ++ l.filter fun q => isTu q.2)))
theorem sorted4_sub {l : Frag} {q : Addr × Obj} (h : q ∈ sorted4 l) : q ∈ l := by
  unfold sorted4 at h
  simp only [List.mem_append, List.mem_filter] at h
  rcases h with h | h | h | h | h <;> exact h.1
def frR (g : Addr → Option Obj) (as : List Addr) : Frag := sorted4 (He.frG g as)
theorem frR_in {as : List Addr} {h : Heap} : (frR h.get? as).In h := fun _ _ e => He.frG_mem (sorted4_sub (He.lookup_mem e))
theorem frR_none {g : Addr → Option Obj} {as : List Addr} {a : Addr} {o : Obj} (h : g a = some o) (ht : He.emptyTab o = true) : (frR g as).lookup a = none := by
  cases e : (frR g as).lookup a with
  | none => rfl
  | some u =>
    have m := He.lookup_mem e
    have z := He.frG_mem (sorted4_sub m)
    rw [h] at z
    obtain rfl := Option.some.inj z
    rw [He.emptyTab_eq ht] at m
    unfold frR sorted4 at m
    simp only [List.mem_append, List.mem_filter] at m
    rcases m with m | m | m | m | m <;> exact absurd m.2 (by decide)
/-- what is told: the facts, the Bool, the defs' code tables: empty, not among the objects looked at -/
structure SaysR (fa : List He.Fa) (fn : List He.DefD) (tf : List He.Defn) (ex : Frag → Bool) (h : Heap) (K : Frag) : Prop where
  d : He.SaysD fa fn K
  m : ex K = true
  hd : ∀ p ∈ tf, codeHdIn K (He.cT K p).1 (He.cT K p).2 = true
  out : ∀ p ∈ tf, K.lookup (He.cT K p).2 = none
  empty : ∀ p ∈ tf, h.get? (He.cT K p).2 = some { cls := .none, data := .fields #[] }
def obsR (as : List Addr) (fa : List He.Fa) (fn : List He.DefD) (tf : List He.Defn) (ex : Frag → Bool) (g : Addr → Option Obj) : He.AlD × Bool :=
  (He.obsD fa fn (frR g as), ex (frR g as) && He.tabsB g tf (frR g as))
theorem saysR_of {as : List Addr} {fa : List He.Fa} {fn : List He.DefD} {tf : List He.Defn} {ex : Frag → Bool} {h : Heap} (e : obsR as fa fn tf ex h.get? = (He.valD fn, true)) : SaysR fa fn tf ex h (frR h.get? as) := by
  obtain ⟨h1, h2⟩ := He.ba (show (ex (frR h.get? as) && He.tabsB h.get? tf (frR h.get? as)) = true from congrArg Prod.snd e)
  have key : ∀ p ∈ tf, codeHdIn (frR h.get? as) (He.cT (frR h.get? as) p).1 (He.cT (frR h.get? as) p).2 = true ∧ ∃ o, h.get? (He.cT (frR h.get? as) p).2 = some o ∧ He.emptyTab o = true := fun p hp => by
    obtain ⟨k1, k2⟩ := He.ba (List.all_eq_true.mp h2 p hp)
    refine ⟨k1, ?_⟩
    cases q : h.get? (He.cT (frR h.get? as) p).2 with
    | none => rw [q] at k2; cases k2
    | some o => rw [q] at k2; exact ⟨o, rfl, k2⟩
  refine ⟨congrArg Prod.fst e, h1, fun p hp => (key p hp).1, fun p hp => ?_, fun p hp => ?_⟩
  · obtain ⟨_, o, q, z⟩ := key p hp
    exact frR_none q z
  · obtain ⟨_, o, q, z⟩ := key p hp
    rw [q, He.emptyTab_eq z]
def hookR (as : List Addr) (fa : List He.Fa) (fn : List He.DefD) (tf : List He.Defn) (ex : Frag → Bool) : Hook where
  α := He.AlD × Bool
  obs := fun s => obsR as fa fn tf ex s.heap.get?
  val := fun _ => (He.valD fn, true)
  says := fun _ h => ∃ K : Frag, K.In h ∧ SaysR fa fn tf ex h K
  of := fun _ _ e => ⟨_, frR_in, saysR_of e⟩
  keeps := fun _ _ _ ⟨K, hK, c⟩ k => ⟨K, Frag.In.keeps hK k, ⟨c.d, c.m, c.hd, c.out, fun p hp => k _ _ (c.empty p hp)⟩⟩
theorem obsR_eq {as : List Addr} {fa : List He.Fa} {fn : List He.DefD} {tf : List He.Defn} {ex : Frag → Bool} {g : Addr → Option Obj} {s : Shared} (h : ∀ a, g a = s.heap.get? a) : obsR as fa fn tf ex g = (hookR as fa fn tf ex).obs s := by
  have e : g = s.heap.get? := funext h
  rw [e] <;> rfl
theorem three {α A B C : Type} {o : Option α} {f : α → A} {g : α → B} {h : α → C} {a : A} {b : B} {c : C} (x : o.map f = some a) (y : o.map g = some b) (z : o.map h = some c) : o.map (fun s => (f s, g s, h s)) = some (a, b, c) := by
  cases o with
  | none => cases x
  | some s =>
    have x1 : f s = a := Option.some.inj x
    have y1 : g s = b := Option.some.inj y
    have z1 : h s = c := Option.some.inj z
    show some (f s, g s, h s) = _
    rw [x1, y1, z1]
/-- the state behind the top -/
noncomputable def endOf (r : OpenRow) (M : Nat) (w : World) (os : OsState) : Option SharedT := HandSHeadRun.endF (HandSHeadRun.stepQ (HandSHeadRun.denQ HandSHeadRun.tabQ) r.prog w) M r.prog w os
noncomputable def looksOf (r : OpenRow) (w : World) (s : SharedT) : Bool := HandSHeadRun.looksF r.prog (boot_heap w.params) s.abs
noncomputable def viewOf (r : OpenRow) (q : Program) (loose : List PySem.Str) (s : SharedT) := HandSHeadRun.seenQ q loose (importedModules r.prog.main.body) (fun s => xlAt q [] s && recOk r.toRowW.records s) s.abs
theorem run_three {r : OpenRow} {q : Program} {H : Hook} {ob : SharedT → H.α} {M : Nat} {loose : List PySem.Str} {w : World} (a : ∀ os, (endOf r M w os).map (looksOf r w) = some true)
    (b : ∀ os, (endOf r M w os).map (viewOf r q loose) = some (openGood q loose)) (c : ∀ os, (endOf r M w os).map ob = some (H.val w)) : HandSHeadRun.RunEq r q H ob M loose w := fun os => three (a os) (b os) (c os)
end Lf

set_option Elab.async false
set_option linter.all false
set_option maxRecDepth 100000
set_option maxHeartbeats 0
namespace K16
open PySem PySem.Spec PyProof.Rows L2
abbrev R : PySem.W.OpenRow := PySem.W.OpenLaw.row PySem.Challenge.rw_letterfolds_k16_products_turned_about
abbrev vw : Program := PySem.W.view R.prog [41]
def as : List Addr := List.range 1600
abbrev hk : PySem.W.Hook := Lf.hookR as fa fn tf ex
def ob (s : PySem.W.SharedT) : He.AlD × Bool := Lf.obsR as fa fn tf ex (HandSHeadRun.getT s)
theorem ob_eq (s : PySem.W.SharedT) : ob s = hk.obs s.abs := Lf.obsR_eq (HandSHeadRun.getT_eq s)
theorem runA (w : World) (os : OsState) : (Lf.endOf R 20000 w os).map (Lf.looksOf R w) = some true := by kernel_rfl
theorem runB (w : World) (os : OsState) : (Lf.endOf R 20000 w os).map (Lf.viewOf R vw loose) = some (PySem.W.openGood vw loose) := by kernel_rfl
theorem runC (w : World) (os : OsState) : (Lf.endOf R 20000 w os).map ob = some (hk.val w) := by kernel_rfl
theorem run (w : World) : HandSHeadRun.RunEq R vw hk ob 20000 loose w := Lf.run_three (runA w) (runB w) (runC w)
end K16

set_option Elab.async false
set_option linter.all false
set_option maxRecDepth 100000
set_option maxHeartbeats 4000000
/-! The end for a law that is promised only where no repr is under way. -/
namespace Lf
open PySem PySem.Spec PyProof.Rows L2
section
variable {P : Program} {w : World} {K : PySem.W.Frag} {mg mb : Str → Option Value} {CX : CXT} {k : Nat} {fa a : Addr} {fd : FuncData} {x : Str} {sp : Sp} {s₁ : Shared} {vs : List Value} {ns : List Int}
/-- the caller's world, with at most the script tracked -/
theorem env_law {H : Hp} (KX : K.In s₁.heap) (hns : s₁.heap.Ns mainGlobals mg) (hb : s₁.heap.Ns builtinsNs mb) (hbb : ∀ x : Str, x ≠ "__name__" → mb x = bootBuiltins x) (hlim : s₁.heap.NoLimit) (hg : s₁.gens = #[])
    (ha : s₁.heap.get? a = some { cls := .type "list", data := .seq vs.toArray }) (hok : HOk P w H s₁.heap) (hA : ∀ b, H b ≠ none → b = a ∧ K.lookup a = none) :
    K.In (hidT s₁.heap H) ∧ (hidT s₁.heap H).Ns mainGlobals mg ∧ Env0 P w K mg (hidT s₁.heap H) callerA [] s₁ H := by
  have free : ∀ {b : Addr} {o : Obj}, s₁.heap.get? b = some o → o.data ≠ .seq vs.toArray → H b = none := fun {b o} e d => by
    cases q : H b with
    | none => rfl
    | some u =>
      obtain ⟨rfl, _⟩ := hA b (by rw [q]; simp)
      rw [ha] at e
      cases e
      exact absurd rfl d
  have names : ∀ {b : Addr} {m : Str → Option Value}, s₁.heap.Ns b m → (hidT s₁.heap H).Ns b m := fun {b m} h => by
    obtain ⟨o, es, ep, e, d, r⟩ := h
    exact ⟨o, es, ep, hidT_get e (free e (by rw [d]; simp)), d, r⟩
  have kin : K.In (hidT s₁.heap H) := fun b o e => hidT_get (KX b o e) (by
    cases q : H b with
    | none => rfl
    | some u =>
      obtain ⟨rfl, z⟩ := hA b (by rw [q]; simp)
      rw [z] at e
      cases e)
  obtain ⟨mc, l1, l2⟩ := hlim
  exact ⟨kin, names hns, rfl, ⟨kin, names hns, ⟨mb, names hb, hbb⟩, mc, names l1, l2⟩, fun b o e => of_hidT e, Nat.le_of_eq (hidT_size _ _), trivial, fun b hb => absurd (show b ∈ ([] : List Addr) from hb) (by simp), hok, .of_eq hg⟩
theorem law_callG (KX : K.In s₁.heap) (hns : s₁.heap.Ns mainGlobals mg) (hb : s₁.heap.Ns builtinsNs mb) (hbb : ∀ x : Str, x ≠ "__name__" → mb x = bootBuiltins x) (hlim : s₁.heap.NoLimit) (hg : s₁.gens = #[])
    (ha : s₁.heap.get? a = some { cls := .type "list", data := .seq vs.toArray }) (hi : IntsAre vs ns) (hl : ns.length ≤ sizeLine) (hr : Room k callerA)
    (F : ∀ base : Heap, K.In base → base.Ns mainGlobals mg → FnG P w K mg base CX k fa fd [x] sp) (hbind : ∀ (s : Shared) (u : Value), BindsTo s fd ⟨[u], []⟩ [(x, u)])
    (hsp : ∀ H : Hp, Only H → SqL K H a (ns.map V.int) → sp [.ref a] H (fun v _ => v = .bl true) fun _ _ _ => False)
    (hCX : ∀ H e s', CX [] H s₁ (fun _ _ _ => False) e s' → False) :
    codeAny (model P w) callerA (.call (.ref fa) ⟨[.ref a], []⟩) (fun r s' => r = .ok (.ret (.bool true)) ∧ OldK s₁.heap s'.heap ∧ s'.os = s₁.os ∧ AllBare s'.gens) s₁ := by
  obtain ⟨H, hO, hS, hok, hA⟩ : ∃ H : Hp, Only H ∧ SqL K H a (ns.map V.int) ∧ HOk P w H s₁.heap ∧ ∀ b, H b ≠ none → b = a ∧ K.lookup a = none := by
    have rv := vals_ints hi
    cases hk : K.lookup a with
    | some o =>
      have e := KX a o hk
      rw [ha] at e
      cases e
      exact ⟨fun _ => none, fun _ => .inl rfl, .inr ⟨_, vs.toArray, _, hk, rfl, rfl, rfl, by rw [List.size_toArray, hi.length]; exact hl, by simpa using rv⟩, (fun b u z => by cases (show (none : Option HO) = some u from z)), fun b z => absurd rfl z⟩
    | none =>
      refine ⟨L2.upd (fun _ => none) a (.frz { cls := .type "list", data := .seq vs.toArray } (.lst (ns.map V.int))), fun b => ?_, .inl (.inr ⟨_, upd_same⟩), fun b u z => ?_, fun b z => ?_⟩
      · by_cases e : b = a
        · subst e
          exact .inr ⟨_, _, upd_same⟩
        · exact .inl (upd_ne e)
      · by_cases e : b = a
        · subst e
          rw [upd_same] at z
          cases z
          exact ⟨ha, by rw [List.length_map]; exact hl, vs, _, rv, ha⟩
        · rw [upd_ne e] at z
          cases z
      · by_cases e : b = a
        · exact ⟨e, rfl⟩
        · exact absurd (upd_ne e) z
  obtain ⟨kin, nm, e0⟩ := env_law KX hns hb hbb hlim hg ha hok hA
  refine codeAny_mono ((F _ kin nm).run callerA [] s₁ H ⟨[.ref a], []⟩ [.ref a] [.ref a] _ _ rfl hr e0 (hbind s₁ (.ref a)) (.cons rfl .nil) (hsp H hO hS)) fun r s' h => ?_
  cases r with
  | error e => exact (hCX H e s' h).elim
  | ok fl =>
    cases fl with
    | next => exact False.elim h
    | brk => exact False.elim h
    | cont => exact False.elim h
    | ret u =>
      obtain ⟨v, H', os, bare, un, hok', r', q⟩ := h
      cases (show v = .bl true from q)
      cases (show u = Value.bool true from r')
      refine ⟨rfl, OldK.of_keep fun b o e => ?_, os, bare⟩
      cases q : H b with
      | none => exact un.keep b o e q (by intro z; exact absurd (show b ∈ ([] : List Addr) from z) (by simp)) (by simp)
      | some u =>
        rcases hO b with z | ⟨ob, xs, z⟩
        · rw [q] at z
          cases z
        · have e1 := (hok b _ z).1
          rw [e] at e1
          cases e1
          exact (hok' b _ (un.frzs b _ _ z)).1
end
theorem walk_ofG {l : PySem.W.OpenLaw} {n k : Nat} {q : Program} {loose : List Str} {XP : (Str → Option Value) → Heap → Prop} {YP : World → Heap → Prop} {d : DefRec} {CX : CXT} {x : Str}
    (hn : l.most = some n) (hn2 : n ≤ sizeLine) (hdf : d.params.defaults = []) (hr : Room k callerA)
    (F : ∀ (w : World) (mg : Str → Option Value) (fa : Addr) (h : Heap), YP w h → h.Ns mainGlobals mg → mg d.name = some (.ref fa) →
      ∃ (K : PySem.W.Frag) (fd : FuncData) (sp : Sp), K.In h ∧ (∀ (s : Shared) (u : Value), BindsTo s fd ⟨[u], []⟩ [(x, u)]) ∧
        (∀ (H : Hp) (a : Addr) (ns : List Int), ns.length ≤ n → Only H → SqL K H a (ns.map V.int) → sp [.ref a] H (fun v _ => v = .bl true) fun _ _ _ => False) ∧
        ∀ base : Heap, K.In base → base.Ns mainGlobals mg → FnG l.prog w K mg base CX k fa fd [x] sp)
    (hCX : ∀ (H : Hp) (s : Shared) (e : Value) (s' : Shared), CX [] H s (fun _ _ _ => False) e s' → False) :
    PySem.W.WalkO q loose XP YP l.row.toRowW d [] (fun f vs => PySem.call f vs) := by
  refine Att.attach_call hn hdf fun w s₀ s₁ mg mb fa o pm cd doc a vs ns G Y ho hd hcd hmg hobj hints hlen hg => ?_
  obtain ⟨K, fd, sp, KX, hb, hsp, hF⟩ := F w mg fa _ Y G.T.g hmg
  exact law_callG KX G.T.g G.T.b G.T.builtins G.T.nolimit hg hobj hints (Nat.le_trans hlen hn2) hr hF hb (fun H hO hS => hsp H a ns hlen hO hS) fun H e s' => hCX H s₁ e s'
end Lf

set_option Elab.async false
set_option linter.all false
set_option maxRecDepth 100000
set_option maxHeartbeats 8000000
namespace K16
open PySem PySem.Spec PyProof.Rows L2 Lf
theorem facts {P : Program} {w : World} {K : PySem.W.Frag} {h : Heap} {mg : Str → Option Value} {f : Addr} (X : K.In h) (G : h.Ns mainGlobals mg) (hfa : mg ("law" : Str) = some (.ref f)) (c : He.SaysD fa fn K) (m : ex K = true) :
    ∃ fd : FuncData, (∀ (s : Shared) (v : Value), BindsTo s fd ⟨[v], []⟩ [("_law_script", v)]) ∧ ∀ base : Heap, K.In base → base.Ns mainGlobals mg → FnG P w K mg base CX0 9 f fd ["_law_script"] (spLaw K) := by
  obtain ⟨fd_is_number, F_is_number⟩ := c.def_ 0 (d := d_is_number) rfl
  obtain ⟨fd_is_between, F_is_between⟩ := c.def_ 1 (d := d_is_between) rfl
  obtain ⟨fd_is_sequence, F_is_sequence⟩ := c.def_ 2 (d := d_is_sequence) rfl
  obtain ⟨fd_is_word, F_is_word⟩ := c.def_ 3 (d := d_is_word) rfl
  obtain ⟨fd_reached_from, F_reached_from⟩ := c.def_ 11 (d := d_reached_from) rfl
  obtain ⟨fd_Monoid_init, F_Monoid_init⟩ := c.def_ 12 (d := d_Monoid_init) rfl
  obtain ⟨fd_Monoid_eq, F_Monoid_eq⟩ := c.def_ 13 (d := d_Monoid_eq) rfl
  obtain ⟨fd_Monoid_size, F_Monoid_size⟩ := c.def_ 14 (d := d_Monoid_size) rfl
  obtain ⟨fd_Monoid_left, F_Monoid_left⟩ := c.def_ 16 (d := d_Monoid_left) rfl
  obtain ⟨fd_Monoid_of_word, F_Monoid_of_word⟩ := c.def_ 17 (d := d_Monoid_of_word) rfl
  obtain ⟨fd_Monoid_times, F_Monoid_times⟩ := c.def_ 18 (d := d_Monoid_times) rfl
  obtain ⟨fd_Monoid_power, F_Monoid_power⟩ := c.def_ 19 (d := d_Monoid_power) rfl
  obtain ⟨fd_Monoid_cycle, F_Monoid_cycle⟩ := c.def_ 20 (d := d_Monoid_cycle) rfl
  obtain ⟨fd_Monoid_least_right, F_Monoid_least_right⟩ := c.def_ 21 (d := d_Monoid_least_right) rfl
  obtain ⟨fd_Monoid_least_left, F_Monoid_least_left⟩ := c.def_ 22 (d := d_Monoid_least_left) rfl
  obtain ⟨fd_Monoid_opposite, F_Monoid_opposite⟩ := c.def_ 23 (d := d_Monoid_opposite) rfl
  obtain ⟨fd_Monoid_turned, F_Monoid_turned⟩ := c.def_ 24 (d := d_Monoid_turned) rfl
  obtain ⟨fd_Monoid_check_number, F_Monoid_check_number⟩ := c.def_ 25 (d := d_Monoid_check_number) rfl
  obtain ⟨fd_Monoid_check_word, F_Monoid_check_word⟩ := c.def_ 26 (d := d_Monoid_check_word) rfl
  obtain ⟨fd_numbered, F_numbered⟩ := c.def_ 27 (d := d_numbered) rfl
  obtain ⟨fd_check_form, F_check_form⟩ := c.def_ 28 (d := d_check_form) rfl
  obtain ⟨fd_made_by, F_made_by⟩ := c.def_ 29 (d := d_made_by) rfl
  obtain ⟨fd_left_table, F_left_table⟩ := c.def_ 30 (d := d_left_table) rfl
  obtain ⟨fd_check_products, F_check_products⟩ := c.def_ 31 (d := d_check_products) rfl
  obtain ⟨fd_letters_of, F_letters_of⟩ := c.def_ 32 (d := d_letters_of) rfl
  obtain ⟨fd_end, F_end⟩ := c.def_ 33 (d := d_end) rfl
  obtain ⟨fd_least_ways, F_least_ways⟩ := c.def_ 34 (d := d_least_ways) rfl
  obtain ⟨fd_products_from, F_products_from⟩ := c.def_ 35 (d := d_products_from) rfl
  obtain ⟨fd_powers, F_powers⟩ := c.def_ 36 (d := d_powers) rfl
  obtain ⟨fd_L_source, F_L_source⟩ := c.def_ 37 (d := d_L_source) rfl
  obtain ⟨fd_L_draw, F_L_draw⟩ := c.def_ 38 (d := d_L_draw) rfl
  obtain ⟨fd_L_pick, F_L_pick⟩ := c.def_ 39 (d := d_L_pick) rfl
  obtain ⟨fd_L_maps, F_L_maps⟩ := c.def_ 40 (d := d_L_maps) rfl
  obtain ⟨fd_L_table, F_L_table⟩ := c.def_ 41 (d := d_L_table) rfl
  obtain ⟨fd_L_opposite, F_L_opposite⟩ := c.def_ 42 (d := d_L_opposite) rfl
  obtain ⟨fd_L_pairs_right, F_L_pairs_right⟩ := c.def_ 43 (d := d_L_pairs_right) rfl
  obtain ⟨fd_L_right, F_L_right⟩ := c.def_ 44 (d := d_L_right) rfl
  obtain ⟨fd_L_far_tables, F_L_far_tables⟩ := c.def_ 45 (d := d_L_far_tables) rfl
  obtain ⟨fd_L_far_right, F_L_far_right⟩ := c.def_ 46 (d := d_L_far_right) rfl
  obtain ⟨fd, F⟩ := c.def_ 47 (d := d_law) rfl
  have gl : ∀ (i : Nat) (x : Str), fa[i]? = some (.glo x) → mg x = some (.ref (He.ga K x)) := fun i x e => He.glo_ok X G (c.fact i e)
  have fr : ∀ (i : Nat) (x : Str), fa[i]? = some (.free x) → mg x = none := fun i x e => He.free_ok X G (c.fact i e)
  have it : ∀ (i : Nat) (x : Str) (v : Int), fa[i]? = some (.int x v) → ∃ t, mg x = some (.int v t) := fun i x v e => He.int_ok X G (c.fact i e)
  have st : ∀ (i : Nat) (x v : Str), fa[i]? = some (.str x v) → ∃ t, mg x = some (.str v t) := fun i x v e => He.str_ok X G (c.fact i e)
  have e := hfa.symm.trans (gl 30 "law" rfl)
  cases e
  have b := FunD.bindsA (ps := ["_law_script"]) F fun _ _ _ _ _ _ us hl => match us, hl with | [_], _ => rfl
  refine ⟨fd, fun s v => b s [v] rfl, fun base _ _ => ?_⟩
  have T : Txt P w K mg base := ⟨c, m, gl, fr, it, st⟩
  have z_ValueError : mg "ValueError" = none := T.fr 35 "ValueError" rfl
  have z_abs : mg "abs" = none := T.fr 36 "abs" rfl
  have z_all : mg "all" = none := T.fr 37 "all" rfl
  have z_bool : mg "bool" = none := T.fr 38 "bool" rfl
  have z_enumerate : mg "enumerate" = none := T.fr 39 "enumerate" rfl
  have z_int : mg "int" = none := T.fr 40 "int" rfl
  have z_isinstance : mg "isinstance" = none := T.fr 41 "isinstance" rfl
  have z_len : mg "len" = none := T.fr 42 "len" rfl
  have z_list : mg "list" = none := T.fr 43 "list" rfl
  have z_range : mg "range" = none := T.fr 44 "range" rfl
  have z_repr : mg "repr" = none := T.fr 45 "repr" rfl
  have z_str : mg "str" = none := T.fr 46 "str" rfl
  have z_tuple : mg "tuple" = none := T.fr 47 "tuple" rfl
  have z_zip : mg "zip" = none := T.fr 48 "zip" rfl
  obtain ⟨t_LETTERS, g_LETTERS⟩ := T.st 33 "LETTERS" "abcdef" rfl
  obtain ⟨t_SIGNS, g_SIGNS⟩ := T.st 34 "SIGNS" "abcdefghijklmnopqrst" rfl
  have D_is_number : Def P w K mg base CX0 1 "is_number" ["thing"] spNum := ⟨_, fd_is_number, T.gl 5 "is_number" rfl, F_is_number.kp, ok_num F_is_number z_isinstance z_int z_bool, F_is_number.bindsN fun _ _ _ _ _ _ us hl => match us, hl with | [_], _ => rfl⟩
  have D_is_between : Def P w K mg base CX0 2 "is_between" ["thing", "least", "most"] spBtw := ⟨_, fd_is_between, T.gl 6 "is_between" rfl, F_is_between.kp, ok_btw F_is_between D_is_number, F_is_between.bindsN fun _ _ _ _ _ _ us hl => match us, hl with | [_, _, _], _ => rfl⟩
  have D_is_sequence : Def P w K mg base CX0 1 "is_sequence" ["thing", "least", "most"] (spSeq K) := ⟨_, fd_is_sequence, T.gl 7 "is_sequence" rfl, F_is_sequence.kp, ok_seq F_is_sequence z_isinstance z_list z_tuple z_len, F_is_sequence.bindsN fun _ _ _ _ _ _ us hl => match us, hl with | [_, _, _], _ => rfl⟩
  obtain ⟨ds_w, vs_w, bs_w⟩ := F_is_word.binds1 (ps := ["thing", "letters", "most"]) 3 1 (by intro z; cases z) rfl fun T kV doc pm an cdv ct us its hl hi => match us, its, hl, hi with | [_, _, _], [_], _, _ => ⟨_, rfl, rfl⟩
  cases vs_w
  have D_is_word : Def P w K mg base CX0 1 "is_word" ["thing", "letters", "most"] spWord := ⟨_, fd_is_word, T.gl 8 "is_word" rfl, F_is_word.kp, ok_word F_is_word g_LETTERS z_isinstance z_str z_len z_all, bs_w⟩
  have D_check_form : Def P w K mg base CX0 3 "_check_form" ["right"] (spForm K) := ⟨_, fd_check_form, T.gl 11 "_check_form" rfl, F_check_form.kp, ok_form F_check_form T D_is_sequence D_is_between, F_check_form.bindsN fun _ _ _ _ _ _ us hl => match us, hl with | [_], _ => rfl⟩
  have D_formT : Def P w K mg base CX0 3 "_check_form" ["right"] (spFormT K) := ⟨_, fd_check_form, T.gl 11 "_check_form" rfl, F_check_form.kp, ok_formT F_check_form T D_is_sequence D_is_between, F_check_form.bindsN fun _ _ _ _ _ _ us hl => match us, hl with | [_], _ => rfl⟩
  have D_made_by : Def P w K mg base CX0 1 "_made_by" ["right"] (spMade K) := ⟨_, fd_made_by, T.gl 12 "_made_by" rfl, F_made_by.kp, ok_made F_made_by T, F_made_by.bindsN fun _ _ _ _ _ _ us hl => match us, hl with | [_], _ => rfl⟩
  have D_left_table : Def P w K mg base CX0 1 "_left_table" ["right", "made"] (spLeft K) := ⟨_, fd_left_table, T.gl 13 "_left_table" rfl, F_left_table.kp, ok_left F_left_table T, F_left_table.bindsN fun _ _ _ _ _ _ us hl => match us, hl with | [_, _], _ => rfl⟩
  have D_check_products : Def P w K mg base CX0 1 "_check_products" ["right", "left"] (spProds K) := ⟨_, fd_check_products, T.gl 14 "_check_products" rfl, F_check_products.kp, ok_prods F_check_products T, F_check_products.bindsN fun _ _ _ _ _ _ us hl => match us, hl with | [_, _], _ => rfl⟩
  have D_letters_of : Def P w K mg base CX0 1 "_letters_of" ["made", "number"] (spLettersOf K) := ⟨_, fd_letters_of, T.gl 15 "_letters_of" rfl, F_letters_of.kp, ok_letters F_letters_of, F_letters_of.bindsN fun _ _ _ _ _ _ us hl => match us, hl with | [_, _], _ => rfl⟩
  have D_end : Def P w K mg base CX0 1 "_end" ["right", "start", "letters"] (spEnd K) := ⟨_, fd_end, T.gl 16 "_end" rfl, F_end.kp, ok_end F_end, F_end.bindsN fun _ _ _ _ _ _ us hl => match us, hl with | [_, _, _], _ => rfl⟩
  have D_products_from : Def P w K mg base CX0 1 "_products_from" ["right", "made", "number"] (spPF K) := ⟨_, fd_products_from, T.gl 18 "_products_from" rfl, F_products_from.kp, ok_pf F_products_from, F_products_from.bindsN fun _ _ _ _ _ _ us hl => match us, hl with | [_, _, _], _ => rfl⟩
  have D_powers : Def P w K mg base CX0 2 "_powers" ["right", "made", "number"] (spPowers K) := ⟨_, fd_powers, T.gl 19 "_powers" rfl, F_powers.kp, ok_powers F_powers z_len D_products_from, F_powers.bindsN fun _ _ _ _ _ _ us hl => match us, hl with | [_, _, _], _ => rfl⟩
  have mM : L2.Mk K (He.ga K "Monoid") (He.ma K (He.ga K "Monoid") "__init__") := He.mkr_ok (T.d.fact 50 (f := .mkr "Monoid") rfl)
  have FM := ok_mon F_Monoid_init T D_check_form D_made_by D_left_table D_check_products
  have bM : L2.Binds K fd_Monoid_init ["self", "right"] [] := F_Monoid_init.bindsN fun _ _ _ _ _ _ us hl => match us, hl with | [_, _], _ => rfl
  have mE : Meth K (He.ga K "Monoid") "__eq__" (He.ma K (He.ga K "Monoid") "__eq__") := He.meth_ok (T.d.fact 51 (f := .meth "Monoid" "__eq__") rfl)
  have FE := ok_eq F_Monoid_eq T
  have bE : L2.Binds K fd_Monoid_eq ["self", "other"] [] := F_Monoid_eq.bindsN fun _ _ _ _ _ _ us hl => match us, hl with | [_, _], _ => rfl
  have M_size : DefM P w K mg base CX0 1 "size" ["self"] (spSize K) := ⟨_, fd_Monoid_size, He.meth_ok (T.d.fact 52 (f := .meth "Monoid" "size") rfl), ok_size F_Monoid_size T, F_Monoid_size.bindsN fun _ _ _ _ _ _ us hl => match us, hl with | [_], _ => rfl⟩
  have M_left : DefM P w K mg base CX0 1 "left" ["self"] (spLeftM K) := ⟨_, fd_Monoid_left, He.meth_ok (T.d.fact 54 (f := .meth "Monoid" "left") rfl), ok_leftM F_Monoid_left T, F_Monoid_left.bindsN fun _ _ _ _ _ _ us hl => match us, hl with | [_], _ => rfl⟩
  have M_check_number : DefM P w K mg base CX0 3 "_check_number" ["self", "number"] (spCkN K) := ⟨_, fd_Monoid_check_number, He.meth_ok (T.d.fact 63 (f := .meth "Monoid" "_check_number") rfl), ok_ckn F_Monoid_check_number T D_is_between M_size, F_Monoid_check_number.bindsN fun _ _ _ _ _ _ us hl => match us, hl with | [_, _], _ => rfl⟩
  have M_check_word : DefM P w K mg base CX0 2 "_check_word" ["self", "word", "most"] (spCkW K) := ⟨_, fd_Monoid_check_word, He.meth_ok (T.d.fact 64 (f := .meth "Monoid" "_check_word") rfl), ok_ckw F_Monoid_check_word T D_is_word, F_Monoid_check_word.bindsN fun _ _ _ _ _ _ us hl => match us, hl with | [_, _, _], _ => rfl⟩
  have M_of_word : DefM P w K mg base CX0 3 "of_word" ["self", "word"] (spOfW K) := ⟨_, fd_Monoid_of_word, He.meth_ok (T.d.fact 55 (f := .meth "Monoid" "of_word") rfl), ok_ofw F_Monoid_of_word T M_check_word D_end, F_Monoid_of_word.bindsN fun _ _ _ _ _ _ us hl => match us, hl with | [_, _], _ => rfl⟩
  have M_times : DefM P w K mg base CX0 4 "times" ["self", "one", "other"] (spTimes K) := ⟨_, fd_Monoid_times, He.meth_ok (T.d.fact 56 (f := .meth "Monoid" "times") rfl), ok_times F_Monoid_times T M_check_number D_end D_letters_of, F_Monoid_times.bindsN fun _ _ _ _ _ _ us hl => match us, hl with | [_, _, _], _ => rfl⟩
  have M_power : DefM P w K mg base CX0 4 "power" ["self", "number", "count"] (spPower K) := ⟨_, fd_Monoid_power, He.meth_ok (T.d.fact 57 (f := .meth "Monoid" "power") rfl), ok_power F_Monoid_power T M_check_number D_is_between D_powers, F_Monoid_power.bindsN fun _ _ _ _ _ _ us hl => match us, hl with | [_, _, _], _ => rfl⟩
  have M_cycle : DefM P w K mg base CX0 4 "cycle" ["self", "number"] (spCycle K) := ⟨_, fd_Monoid_cycle, He.meth_ok (T.d.fact 58 (f := .meth "Monoid" "cycle") rfl), ok_cycle F_Monoid_cycle T M_check_number D_powers, F_Monoid_cycle.bindsN fun _ _ _ _ _ _ us hl => match us, hl with | [_, _], _ => rfl⟩
  obtain ⟨dsy, vsy, bsy⟩ := F_least_ways.binds1 (ps := ["table", "one", "is_front", "last"]) 4 1 (by intro z; cases z) rfl fun T kV doc pm an cdv ct us its hl hi => match us, its, hl, hi with | [_, _, _, _], [_], _, _ => ⟨_, rfl, rfl⟩
  cases vsy
  have D_least_ways : Def P w K mg base CX0 1 "least_ways" ["table", "one", "is_front", "last"] (spWays K) := ⟨_, fd_least_ways, T.gl 17 "least_ways" rfl, F_least_ways.kp, ok_ways F_least_ways g_SIGNS z_list z_range z_len, bsy⟩
  have M_least_right : DefM P w K mg base CX0 4 "least_right" ["self", "one", "other"] (spLR false K) := ⟨_, fd_Monoid_least_right, He.meth_ok (T.d.fact 59 (f := .meth "Monoid" "least_right") rfl), ok_lr F_Monoid_least_right T M_check_number D_least_ways, F_Monoid_least_right.bindsN fun _ _ _ _ _ _ us hl => match us, hl with | [_, _, _], _ => rfl⟩
  have M_least_left : DefM P w K mg base CX0 4 "least_left" ["self", "one", "other"] (spLR true K) := ⟨_, fd_Monoid_least_left, He.meth_ok (T.d.fact 60 (f := .meth "Monoid" "least_left") rfl), ok_ll F_Monoid_least_left T M_check_number D_least_ways, F_Monoid_least_left.bindsN fun _ _ _ _ _ _ us hl => match us, hl with | [_, _, _], _ => rfl⟩
  have D_reached_from : Def P w K mg base CX0 2 "reached_from" ["rows", "first"] (spReach K) := ⟨_, fd_reached_from, T.gl 9 "reached_from" rfl, F_reached_from.kp, ok_reach F_reached_from T, F_reached_from.bindsN fun _ _ _ _ _ _ us hl => match us, hl with | [_, _], _ => rfl⟩
  have D_numbered : Def P w K mg base CX0 6 "numbered" ["right", "first"] (spNumb K) := ⟨_, fd_numbered, T.gl 10 "numbered" rfl, F_numbered.kp, ok_numb F_numbered T D_formT D_is_between D_reached_from mM FM bM, F_numbered.bindsN fun _ _ _ _ _ _ us hl => match us, hl with | [_, _], _ => rfl⟩
  have M_opposite : DefM P w K mg base CX0 7 "opposite" ["self"] (spOpp K) := ⟨_, fd_Monoid_opposite, He.meth_ok (T.d.fact 61 (f := .meth "Monoid" "opposite") rfl), ok_opp F_Monoid_opposite T D_numbered, F_Monoid_opposite.bindsN fun _ _ _ _ _ _ us hl => match us, hl with | [_], _ => rfl⟩
  have M_turned : DefM P w K mg base CX0 3 "turned" ["self"] (spTurned K) := ⟨_, fd_Monoid_turned, He.meth_ok (T.d.fact 62 (f := .meth "Monoid" "turned") rfl), ok_turned F_Monoid_turned T D_reached_from M_size, F_Monoid_turned.bindsN fun _ _ _ _ _ _ us hl => match us, hl with | [_], _ => rfl⟩
  have D_L_source : Def P w K mg base CX0 1 "_law_source" ["_law_cell"] spSource := ⟨_, fd_L_source, T.gl 20 "_law_source" rfl, F_L_source.kp, ok_source F_L_source z_abs z_int, F_L_source.bindsN fun _ _ _ _ _ _ us hl => match us, hl with | [_], _ => rfl⟩
  have D_L_draw : Def P w K mg base CX0 1 "_law_draw" ["_law_source_here", "_law_many"] spDraw := ⟨_, fd_L_draw, T.gl 21 "_law_draw" rfl, F_L_draw.kp, ok_draw F_L_draw z_int, F_L_draw.bindsN fun _ _ _ _ _ _ us hl => match us, hl with | [_, _], _ => rfl⟩
  have D_L_pick : Def P w K mg base CX0 2 "_law_pick" ["_law_source_here", "_law_some"] spPick := ⟨_, fd_L_pick, T.gl 22 "_law_pick" rfl, F_L_pick.kp, ok_pick F_L_pick z_len D_L_draw, F_L_pick.bindsN fun _ _ _ _ _ _ us hl => match us, hl with | [_, _], _ => rfl⟩
  have D_L_maps : Def P w K mg base CX0 2 "_law_maps" ["_law_source_here", "_law_most_points", "_law_most_letters"] spMaps := ⟨_, fd_L_maps, T.gl 23 "_law_maps" rfl, F_L_maps.kp, ok_maps F_L_maps z_range z_tuple D_L_draw, F_L_maps.bindsN fun _ _ _ _ _ _ us hl => match us, hl with | [_, _, _], _ => rfl⟩
  have D_L_table : Def P w K mg base CX0 1 "_law_table" ["_law_rows"] (spTable K) := ⟨_, fd_L_table, T.gl 24 "_law_table" rfl, F_L_table.kp, ok_table F_L_table z_range z_tuple z_len z_zip, F_L_table.bindsN fun _ _ _ _ _ _ us hl => match us, hl with | [_], _ => rfl⟩
  have D_L_opposite : Def P w K mg base CX0 1 "_law_opposite" ["_law_rows"] (spOL K) := ⟨_, fd_L_opposite, T.gl 25 "_law_opposite" rfl, F_L_opposite.kp, ok_ol F_L_opposite z_range z_tuple z_len, F_L_opposite.bindsN fun _ _ _ _ _ _ us hl => match us, hl with | [_], _ => rfl⟩
  have D_L_pairs_right : Def P w K mg base CX0 5 "_law_pairs_right" ["_law_source_here", "_law_monoid", "_law_other", "_law_turned"] (spPairs K) := ⟨_, fd_L_pairs_right, T.gl 26 "_law_pairs_right" rfl, F_L_pairs_right.kp, ok_pairs F_L_pairs_right T D_L_draw M_size M_times M_cycle M_power M_of_word M_least_right M_least_left, F_L_pairs_right.bindsN fun _ _ _ _ _ _ us hl => match us, hl with | [_, _, _, _], _ => rfl⟩
  have D_L_right : DefG P w K mg base CX0 8 "_law_right" ["_law_source_here", "_law_rows"] (spRight K) := ⟨_, fd_L_right, T.gl 27 "_law_right" rfl, F_L_right.kp, ok_right F_L_right T D_L_table D_L_opposite D_L_pairs_right M_opposite M_turned M_left M_of_word mM FM bM mE FE bE, F_L_right.bindsN fun _ _ _ _ _ _ us hl => match us, hl with | [_, _], _ => rfl⟩
  have D_L_far_tables : Def P w K mg base CX0 1 "_law_far_tables" ["_law_many"] (spFar K) := ⟨_, fd_L_far_tables, T.gl 28 "_law_far_tables" rfl, F_L_far_tables.kp, ok_far F_L_far_tables z_range z_int, F_L_far_tables.bindsN fun _ _ _ _ _ _ us hl => match us, hl with | [_], _ => rfl⟩
  have D_L_far_right : DefG P w K mg base CX0 8 "_law_far_right" ["_law_many"] spFarR := ⟨_, fd_L_far_right, T.gl 29 "_law_far_right" rfl, F_L_far_right.kp, ok_farR F_L_far_right T D_L_far_tables M_opposite M_turned mM FM bM mE FE bE, F_L_far_right.bindsN fun _ _ _ _ _ _ us hl => match us, hl with | [_], _ => rfl⟩
  exact ok_law F T D_L_source D_L_draw D_L_maps D_L_right D_L_far_right
end K16
open PySem PySem.W PySem.Calls PyProof.Rows
theorem PySem.Challenge.cw_letterfolds_k16_products_turned_about_holds : PySem.Challenge.rw_letterfolds_k16_products_turned_about.Holds := by
  w_on; o_law
  refine HandSHeadRun.head_any (r := K16.R) (q := K16.vw) (H := K16.hk) (ob := K16.ob) (M := 20000) (loose := K16.loose) (d := HandSHeadRun.topDef K16.R.prog 41) (kwd := []) K16.ob_eq
    (by kernel_rfl) (fun s => by kernel_rfl) K16.run (by kernel_rfl) (by kernel_rfl) (by kernel_rfl) (by rfl) (by first | assumption | decide +kernel) (by decide +kernel) ⟨rfl, rfl, rfl, rfl, rfl, by decide +kernel⟩ ?hw ?hc
  case hw => w_witness2
  case hc =>
    refine Lf.walk_ofG (l := PySem.Challenge.rw_letterfolds_k16_products_turned_about) (n := 63) (k := 9) (x := "_law_script") (CX := L2.CX0) rfl (by decide) (by kernel_rfl) ⟨rfl, by decide, by decide⟩ ?F (fun _ _ _ _ z => z)
    intro w mg fa h Y G hmg0
    obtain ⟨K, KX, S⟩ := Y
    have hmg : mg ("law" : PySem.Str) = some (.ref fa) := by
      have e : (HandSHeadRun.topDef K16.R.prog 41).name = ("law" : PySem.Str) := by kernel_rfl
      rw [← e]
      exact hmg0
    obtain ⟨fd, hb, hF⟩ := K16.facts (P := PySem.Challenge.rw_letterfolds_k16_products_turned_about.prog) (w := w) KX G hmg S.d S.m
    exact ⟨K, fd, K16.spLaw K, KX, hb, fun H a ns hl _ hS => ⟨a, ns, rfl, hS, hl, fun _ => rfl⟩, hF⟩
