import PyProof.Rows.All
import Wide.All
import OpenK.AllK
import Wide.FinOn
import PyProof.EqAt
import PyProof.EqKinds
import PyProof.TupleCall
import Open.SpecLaws
import KE.OsHead
import KE.OsGo
import HandS.ForSpec
import HandS.Comp
import HandS.Dict
import HandS.Iter
import HandS.WordsDict
import HandS.Zip
import PySem.Challenge.RW_arrowmaps_s03_is_map
set_option Elab.async false
set_option maxRecDepth 100000
set_option maxHeartbeats 2000000
namespace Am
open Ks547 (rows pairsOf graphOf has keeps maps Graph)

/-! ### arrows of a flat list -/
def prs : List Nat → List (Nat × Nat)
  | u :: v :: l => (u, v) :: prs l
  | _ => []
theorem prs_of {p : Nat} : ∀ {l : List Nat} {r : List (Nat × Nat)}, pairsOf p l = some r → r = prs l ∧ l.length = 2 * r.length ∧ ∀ q ∈ r, q.1 < p ∧ q.2 < p
  | [], r, h => by
    cases h
    exact ⟨rfl, rfl, by intro q hq; cases hq⟩
  | [u], r, h => by cases h
  | u :: v :: l, r, h => by
    have h : (if p ≤ u ∨ p ≤ v then none else match pairsOf p l with
      | none => none
      | some r => match r with
        | [] => some [(u, v)]
        | q :: _ => if u < q.1 ∨ (u = q.1 ∧ v < q.2) then some ((u, v) :: r) else none) = some r := h
    by_cases c : p ≤ u ∨ p ≤ v
    · rw [if_pos c] at h
      cases h
    · rw [if_neg c] at h
      cases e : pairsOf p l with
      | none =>
        rw [e] at h
        cases h
      | some t =>
        rw [e] at h
        obtain ⟨h1, h2, h3⟩ := prs_of e
        have hr : r = (u, v) :: t := by
          cases t with
          | nil => cases h; rfl
          | cons q t =>
            dsimp only at h
            split at h
            · cases h; rfl
            · cases h
        subst hr
        refine ⟨by rw [h1]; rfl, by simp only [List.length_cons, h2]; omega, fun q hq => ?_⟩
        rcases List.mem_cons.mp hq with e | m
        · subst e
          exact ⟨by omega, by omega⟩
        · exact h3 q m

/-- the program's own test, from a last rank on -/
def scan (p : Nat) : Int → List Nat → Bool
  | _, [] => true
  | last, u :: v :: l => if p ≤ u ∨ p ≤ v then false else if ((u : Int) * p + v) ≤ last then false else scan p ((u : Int) * p + v) l
  | _, [_] => false
def okFrom (p : Nat) (last : Int) : Option (List (Nat × Nat)) → Bool
  | none => false
  | some [] => true
  | some (q :: _) => decide (last < (q.1 : Int) * p + q.2)
theorem rank_lt {p u v a b : Nat} (hv : v < p) (hb : b < p) : ((u : Int) * p + v < (a : Int) * p + b) ↔ (u < a ∨ (u = a ∧ v < b)) := by
  have e1 : ((u : Int) * p + v < (a : Int) * p + b) ↔ (u * p + v < a * p + b) := by
    constructor
    · intro h; exact_mod_cast h
    · intro h; exact_mod_cast h
  rw [e1]
  constructor
  · intro h
    rcases Nat.lt_trichotomy u a with c | c | c
    · exact .inl c
    · subst c
      exact .inr ⟨rfl, by omega⟩
    · have : (a + 1) * p ≤ u * p := Nat.mul_le_mul_right p c
      rw [Nat.add_mul] at this
      omega
  · rintro (c | ⟨rfl, c⟩)
    · have : (u + 1) * p ≤ a * p := Nat.mul_le_mul_right p c
      rw [Nat.add_mul] at this
      omega
    · omega
theorem scan_ok (p : Nat) : ∀ (l : List Nat) (last : Int), scan p last l = okFrom p last (pairsOf p l)
  | [], last => rfl
  | [u], last => rfl
  | u :: v :: l, last => by
    show (if p ≤ u ∨ p ≤ v then false else if ((u : Int) * p + v) ≤ last then false else scan p ((u : Int) * p + v) l) = okFrom p last (if p ≤ u ∨ p ≤ v then none else match pairsOf p l with
      | none => none
      | some r => match r with
        | [] => some [(u, v)]
        | q :: _ => if u < q.1 ∨ (u = q.1 ∧ v < q.2) then some ((u, v) :: r) else none)
    by_cases c : p ≤ u ∨ p ≤ v
    · rw [if_pos c, if_pos c]
      rfl
    · rw [if_neg c, if_neg c, scan_ok p l]
      cases e : pairsOf p l with
      | none =>
        show (if _ then false else false) = false
        split <;> rfl
      | some r =>
        cases r with
        | nil =>
          show (if ((u : Int) * p + v) ≤ last then false else true) = decide (last < (u : Int) * p + v)
          split
          · rw [decide_eq_false (by omega)]
          · rw [decide_eq_true (by omega)]
        | cons q t =>
          have hq := (prs_of e).2.2 q List.mem_cons_self
          have rk := rank_lt (p := p) (u := u) (v := v) (a := q.1) (b := q.2) (by omega) hq.2
          show (if ((u : Int) * p + v) ≤ last then false else decide ((u : Int) * p + v < (q.1 : Int) * p + q.2)) = okFrom p last (if u < q.1 ∨ (u = q.1 ∧ v < q.2) then some ((u, v) :: q :: t) else none)
          by_cases d : u < q.1 ∨ (u = q.1 ∧ v < q.2)
          · rw [if_pos d, decide_eq_true (rk.mpr d)]
            show (if ((u : Int) * p + v) ≤ last then false else true) = decide (last < (u : Int) * p + v)
            split
            · rw [decide_eq_false (by omega)]
            · rw [decide_eq_true (by omega)]
          · rw [if_neg d, decide_eq_false (fun z => d (rk.mp z))]
            show (if _ then false else false) = false
            split <;> rfl
theorem scan_graph {p : Nat} {l : List Nat} (h1 : 1 ≤ p) (h2 : p ≤ 5) : scan p (-1) l = (graphOf p l).isSome := by
  have e : graphOf p l = (pairsOf p l).map fun r => ⟨p, r⟩ := by
    unfold graphOf
    rw [if_neg (by show ¬ (p < 1 ∨ 5 < p); omega)]
  rw [e, scan_ok]
  cases c : pairsOf p l with
  | none => rfl
  | some r =>
    cases r with
    | nil => rfl
    | cons q t =>
      show decide ((-1 : Int) < (q.1 : Int) * p + q.2) = true
      refine decide_eq_true ?_
      have : (0 : Int) ≤ (q.1 : Int) * p := Int.mul_nonneg (by omega) (by omega)
      omega
theorem graph_no {p : Nat} {l : List Nat} (h : p < 1 ∨ 5 < p) : graphOf p l = none := by
  unfold graphOf
  exact if_pos h
theorem pairs_odd {p : Nat} : ∀ {l : List Nat}, l.length % 2 ≠ 0 → pairsOf p l = none
  | [], h => absurd rfl h
  | [u], _ => rfl
  | u :: v :: l, h => by
    have h' : l.length % 2 ≠ 0 := by
      simp only [List.length_cons] at h
      omega
    show (if p ≤ u ∨ p ≤ v then none else match pairsOf p l with
      | none => none
      | some r => match r with
        | [] => some [(u, v)]
        | q :: _ => if u < q.1 ∨ (u = q.1 ∧ v < q.2) then some ((u, v) :: r) else none) = none
    rw [pairs_odd h']
    split <;> rfl
theorem graph_odd {p : Nat} {l : List Nat} (h : l.length % 2 ≠ 0) : graphOf p l = none := by
  unfold graphOf
  rw [pairs_odd h]
  split <;> rfl
/-- what a graph's telling is -/
theorem graph_some {p : Nat} {l : List Nat} {g : Graph} (h : graphOf p l = some g) : 1 ≤ p ∧ p ≤ 5 ∧ g = ⟨p, prs l⟩ ∧ l.length = 2 * (prs l).length ∧ ∀ q ∈ prs l, q.1 < p ∧ q.2 < p := by
  unfold graphOf at h
  by_cases c : p < 1 ∨ Ks547.PLACES < p
  · rw [if_pos c] at h
    cases h
  · rw [if_neg c] at h
    have c : ¬ (p < 1 ∨ 5 < p) := c
    cases e : pairsOf p l with
    | none =>
      rw [e] at h
      cases h
    | some r =>
      rw [e] at h
      cases h
      obtain ⟨rfl, h2, h3⟩ := prs_of e
      exact ⟨by omega, by omega, rfl, h2, h3⟩
theorem prs_len : ∀ {l : List Nat} {k : Nat}, l.length = 2 * k → (prs l).length = k
  | [], k, h => by
    simp only [List.length_nil] at h
    show 0 = k
    omega
  | [_], k, h => by
    simp only [List.length_cons, List.length_nil] at h
    omega
  | u :: v :: l, k, h => by
    simp only [List.length_cons] at h
    have := prs_len (l := l) (k := k - 1) (by omega)
    show (prs l).length + 1 = k
    omega
/-- the i-th arrow of a flat list -/
theorem prs_at : ∀ {l : List Nat} {i : Nat} {q : Nat × Nat}, (prs l)[i]? = some q → l[2 * i]? = some q.1 ∧ l[2 * i + 1]? = some q.2
  | [], i, q, h => by simp [prs] at h
  | [_], i, q, h => by simp [prs] at h
  | u :: v :: l, 0, q, h => by
    have e : (u, v) = q := Option.some.inj h
    subst e
    exact ⟨rfl, rfl⟩
  | u :: v :: l, i + 1, q, h => by
    obtain ⟨h1, h2⟩ := prs_at (l := l) (i := i) (q := q) h
    rw [show 2 * (i + 1) = 2 * i + 1 + 1 by omega]
    exact ⟨h1, h2⟩
theorem drop_two {l : List Nat} {i u v : Nat} (h1 : l[2 * i]? = some u) (h2 : l[2 * i + 1]? = some v) : l.drop (2 * i) = u :: v :: l.drop (2 * (i + 1)) := by
  obtain ⟨a, ea⟩ := List.getElem?_eq_some_iff.mp h1
  obtain ⟨b, eb⟩ := List.getElem?_eq_some_iff.mp h2
  rw [List.drop_eq_getElem_cons a, ea, List.drop_eq_getElem_cons b, eb]
  rfl
theorem take_snoc {α : Type} : ∀ {l : List α} {i : Nat} {x : α}, l[i]? = some x → l.take (i + 1) = l.take i ++ [x]
  | [], i, x, h => by simp at h
  | a :: l, 0, x, h => by
    have e : a = x := Option.some.inj h
    subst e
    rfl
  | a :: l, i + 1, x, h => by
    have ih := take_snoc (l := l) (i := i) (x := x) h
    show a :: l.take (i + 1) = a :: l.take i ++ [x]
    rw [ih]
    rfl

/-! ### all rows, grown at their end -/
def ext (m : Nat) (r : List Nat) : List (List Nat) := (List.range m).map fun x => r ++ [x]
theorem rows_succ (m : Nat) : ∀ k, rows m (k + 1) = (rows m k).flatMap (ext m)
  | 0 => by
    show (List.range m).flatMap (fun x => [[x]]) = (ext m []) ++ []
    rw [List.append_nil]
    unfold ext
    rw [← List.map_eq_flatMap]
    rfl
  | k + 1 => by
    show (List.range m).flatMap (fun x => (rows m (k + 1)).map fun r => x :: r) = ((List.range m).flatMap fun x => (rows m k).map fun r => x :: r).flatMap (ext m)
    rw [rows_succ m k, List.flatMap_assoc]
    congr 1
    funext x
    rw [List.map_flatMap, List.flatMap_map]
    congr 1
    funext r
    unfold ext
    rw [List.map_map]
    rfl
theorem rows_len (m : Nat) : ∀ k, (rows m k).length = m ^ k
  | 0 => rfl
  | k + 1 => by
    rw [rows_succ, List.length_flatMap]
    have e : (rows m k).map (fun r => (ext m r).length) = (rows m k).map fun _ => m := by
      congr 1
      funext r
      unfold ext
      rw [List.length_map, List.length_range]
    rw [e, Nat.pow_succ, ← rows_len m k]
    generalize rows m k = l
    induction l with
    | nil => simp
    | cons a l ih =>
      rw [List.map_cons, List.sum_cons, ih, List.length_cons, Nat.add_mul]
      omega
theorem rows_mem (m : Nat) : ∀ (k : Nat) (f : List Nat), f ∈ rows m k → f.length = k ∧ ∀ x ∈ f, x < m
  | 0, f, h => by
    have e : f = [] := List.mem_singleton.mp h
    subst e
    exact ⟨rfl, by intro x hx; cases hx⟩
  | k + 1, f, h => by
    obtain ⟨x, hx, h⟩ := List.mem_flatMap.mp h
    obtain ⟨r, hr, rfl⟩ := List.mem_map.mp h
    obtain ⟨h1, h2⟩ := rows_mem m k r hr
    refine ⟨by rw [List.length_cons, h1], fun y hy => ?_⟩
    rcases List.mem_cons.mp hy with e | e
    · rw [e]
      exact List.mem_range.mp hx
    · exact h2 y e
/-- the test that the program makes of a row -/
def keepsR (r s : List (Nat × Nat)) (f : List Nat) : Bool := r.all fun p => s.contains (f.getD p.1 0, f.getD p.2 0)
def mapsR (n m : Nat) (r s : List (Nat × Nat)) : List (List Nat) := (rows m n).filter (keepsR r s)
theorem maps_eq (n m : Nat) (r s : List (Nat × Nat)) : maps ⟨n, r⟩ ⟨m, s⟩ = mapsR n m r s := by
  show (rows m n).filter (keeps ⟨n, r⟩ ⟨m, s⟩) = (rows m n).filter (keepsR r s)
  refine List.filter_congr fun f hf => ?_
  obtain ⟨h1, h2⟩ := rows_mem m n f hf
  unfold keeps keepsR has
  have e1 : (f.length == n) = true := by rw [h1]; exact beq_self_eq_true n
  have e2 : f.all (fun x => decide (x < m)) = true := List.all_eq_true.mpr fun x hx => decide_eq_true (h2 x hx)
  show (f.length == n && f.all (fun x => decide (x < m)) && _) = _
  rw [e1, e2]
  rfl
theorem pow_small {n m : Nat} (hn : n ≤ 5) (hm : m ≤ 5) : m ^ n ≤ 3125 := by
  have h1 : m ^ n ≤ 5 ^ n := Nat.pow_le_pow_left hm n
  have h2 : 5 ^ n ≤ 5 ^ 5 := Nat.pow_le_pow_right (by decide) hn
  omega
theorem rows_small {n m : Nat} (hn : n ≤ 5) (hm : m ≤ 5) : (rows m n).length ≤ 3125 := by
  rw [rows_len]
  exact pow_small hn hm
theorem mapsR_small {n m : Nat} {r s : List (Nat × Nat)} (hn : n ≤ 5) (hm : m ≤ 5) : (mapsR n m r s).length ≤ 3125 :=
  Nat.le_trans (List.length_filter_le _ _) (rows_small hn hm)

/-! ### the whole answers -/
def two (n m : Nat) (l k : List Nat) (f : List Int) : List Int := if (graphOf n l).isSome = true ∧ (graphOf m k).isSome = true then f else [-22]
theorem two_eq {n m : Nat} {l k : List Nat} {F : Graph → Graph → Ks547.Ans} : Ks547Neutral.out (Ks547.two n m l k F) = two n m l k (Ks547Neutral.out (F ⟨n, prs l⟩ ⟨m, prs k⟩)) := by
  unfold Ks547.two Ks547.graph two
  cases e1 : graphOf n l with
  | none => rfl
  | some g =>
    cases e2 : graphOf m k with
    | none => rfl
    | some h =>
      obtain ⟨_, _, rfl, _, _⟩ := graph_some e1
      obtain ⟨_, _, rfl, _, _⟩ := graph_some e2
      rfl
def countR (n m : Nat) (l k : List Nat) : List Int := two n m l k [((mapsR n m (prs l) (prs k)).length : Int)]
def nthR (n m i : Nat) (l k : List Nat) : List Int := two n m l k (match (mapsR n m (prs l) (prs k))[i]? with
  | none => [-33]
  | some f => (n : Int) :: f.map Int.ofNat)
def zs (l : List Nat) : List Int := l.map fun (x : Nat) => (x : Int)
theorem nats_ints (l : List Nat) : Ks547Neutral.nats (zs l) = l := by
  unfold Ks547Neutral.nats zs
  rw [List.map_map]
  exact List.map_id l
theorem count_eq (n m : Nat) (l k : List Nat) : PyKs547.count n m (zs l) (zs k) = countR n m l k := by
  show Ks547Neutral.out (Ks547.two n m (Ks547Neutral.nats (zs l)) (Ks547Neutral.nats (zs k)) fun g h => Ks547.no (maps g h).length) = _
  rw [nats_ints, nats_ints, two_eq]
  unfold countR
  rw [← maps_eq]
  rfl
theorem nth_eq (n m i : Nat) (l k : List Nat) : PyKs547.nth n m i (zs l) (zs k) = nthR n m i l k := by
  show Ks547Neutral.out (Ks547.two n m (Ks547Neutral.nats (zs l)) (Ks547Neutral.nats (zs k)) fun g h => match (maps g h)[i]? with
    | none => Ks547.no (-33)
    | some f => Ks547.told f) = _
  rw [nats_ints, nats_ints, two_eq]
  unfold nthR
  congr 1
  rw [maps_eq]
  cases e : (mapsR n m (prs l) (prs k))[i]? with
  | none => rfl
  | some f =>
    have hf : f ∈ mapsR n m (prs l) (prs k) := List.mem_of_getElem? e
    have hl := (rows_mem m n f (List.mem_filter.mp hf).1).1
    show (f.length : Int) :: f.map Int.ofNat = (n : Int) :: f.map Int.ofNat
    rw [hl]
theorem ints_of : ∀ {l : List Int}, (∀ x ∈ l, 0 ≤ x) → ∃ k : List Nat, l = zs k
  | [], _ => ⟨[], rfl⟩
  | a :: l, h => by
    obtain ⟨k, e⟩ := ints_of (l := l) fun x hx => h x (List.mem_cons_of_mem _ hx)
    have ha := h a List.mem_cons_self
    refine ⟨a.toNat :: k, ?_⟩
    show a :: l = (a.toNat : Int) :: zs k
    rw [← e]
    congr 1
    exact (Int.toNat_of_nonneg ha).symm
open Ks547 (rows pairsOf graphOf has keeps maps Graph apart onto ontoArrows)
/-! ### no number twice -/
theorem dups_le : ∀ (n : Nat) (l : List Nat), l.length ≤ n → l.eraseDups.length ≤ l.length
  | _, [], _ => by simp
  | 0, a :: l, h => by simp at h
  | n + 1, a :: l, h => by
    rw [List.eraseDups_cons, List.length_cons, List.length_cons]
    have h1 : (l.filter fun b => !b == a).length ≤ l.length := List.length_filter_le _ _
    have h2 := dups_le n (l.filter fun b => !b == a) (by simp only [List.length_cons] at h; omega)
    omega
theorem apart_cons (a : Nat) (l : List Nat) : apart (a :: l) = (!l.contains a && apart l) := by
  unfold apart
  rw [List.eraseDups_cons]
  cases c : l.contains a with
  | true =>
    have m : a ∈ l := by simpa using c
    have h1 : (l.filter fun b => !b == a).length < l.length := by
      rcases Nat.lt_or_ge (l.filter fun b => !b == a).length l.length with h | h
      · exact h
      · have e := List.length_filter_eq_length_iff.mp (Nat.le_antisymm (List.length_filter_le _ _) h)
        have := e a m
        simp at this
    have h2 := dups_le _ (l.filter fun b => !b == a) (Nat.le_refl _)
    rw [List.length_cons, List.length_cons]
    simp only [Bool.not_true, Bool.false_and, beq_eq_false_iff_ne, ne_eq]
    omega
  | false =>
    have e : (l.filter fun b => !b == a) = l := by
      refine List.filter_eq_self.mpr fun x hx => ?_
      have : x ≠ a := fun z => by
        rw [z] at hx
        have : l.contains a = true := by simpa using hx
        rw [c] at this
        cases this
      simpa using this
    rw [e, List.length_cons, List.length_cons]
    simp
theorem apart_iff : ∀ l : List Nat, apart l = true ↔ l.Nodup
  | [] => by simp [apart]
  | a :: l => by
    rw [apart_cons, List.nodup_cons, Bool.and_eq_true, apart_iff l]
    simp
/-! ### the other answers -/
def b2 (b : Bool) : Int := if b = true then 1 else 0
def isR (n m : Nat) (l k f : List Nat) : List Int := two n m l k [b2 (keeps ⟨n, prs l⟩ ⟨m, prs k⟩ f), b2 (apart f), b2 (onto ⟨m, prs k⟩ f), b2 (ontoArrows ⟨n, prs l⟩ ⟨m, prs k⟩ f)]
theorem is_eq (n m : Nat) (l k f : List Nat) : PyKs547.is_map n m (zs l) (zs k) (zs f) = isR n m l k f := by
  show Ks547Neutral.out (Ks547.two n m (Ks547Neutral.nats (zs l)) (Ks547Neutral.nats (zs k)) fun g h =>
    { ret := if keeps g h (Ks547Neutral.nats (zs f)) then 1 else 0, out := [if apart (Ks547Neutral.nats (zs f)) then 1 else 0, if onto h (Ks547Neutral.nats (zs f)) then 1 else 0, if ontoArrows g h (Ks547Neutral.nats (zs f)) then 1 else 0] }) = _
  rw [nats_ints, nats_ints, nats_ints, two_eq]
  unfold isR
  congr 1
  unfold Ks547Neutral.out b2
  dsimp only
  cases keeps ⟨n, prs l⟩ ⟨m, prs k⟩ f <;> cases apart f <;> cases onto ⟨m, prs k⟩ f <;> cases ontoArrows ⟨n, prs l⟩ ⟨m, prs k⟩ f <;> rfl
def kindsR (n m : Nat) (l k : List Nat) : List Int := two n m l k [((mapsR n m (prs l) (prs k)).length : Int), (((mapsR n m (prs l) (prs k)).filter apart).length : Int),
  (((mapsR n m (prs l) (prs k)).filter (onto ⟨m, prs k⟩)).length : Int), (((mapsR n m (prs l) (prs k)).filter fun f => onto ⟨m, prs k⟩ f && ontoArrows ⟨n, prs l⟩ ⟨m, prs k⟩ f).length : Int)]
theorem kinds_eq (n m : Nat) (l k : List Nat) : PyKs547.kinds n m (zs l) (zs k) = kindsR n m l k := by
  show Ks547Neutral.out (Ks547.two n m (Ks547Neutral.nats (zs l)) (Ks547Neutral.nats (zs k)) fun g h => let a := maps g h
    { ret := a.length, out := [(a.filter apart).length, (a.filter (onto h)).length, (a.filter fun f => onto h f && ontoArrows g h f).length] }) = _
  rw [nats_ints, nats_ints, two_eq]
  unfold kindsR
  congr 1
  dsimp only
  rw [maps_eq]
  rfl
/-- a naming, of a map -/
def names (n m : Nat) (r s : List (Nat × Nat)) (f : List Nat) : Bool := apart f && onto ⟨m, s⟩ f && ontoArrows ⟨n, r⟩ ⟨m, s⟩ f
def sameR (n m : Nat) (l k : List Nat) : List Int := two n m l k (match (mapsR n m (prs l) (prs k)).find? (names n m (prs l) (prs k)) with
  | none => [-33]
  | some f => (n : Int) :: zs f)
theorem find_congr {α : Type} {p q : α → Bool} : ∀ {l : List α}, (∀ x ∈ l, p x = q x) → l.find? p = l.find? q
  | [], _ => rfl
  | a :: l, h => by
    rw [List.find?_cons, List.find?_cons, h a List.mem_cons_self, find_congr fun x hx => h x (List.mem_cons_of_mem _ hx)]
theorem same_eq (n m : Nat) (l k : List Nat) : PyKs547.same n m (zs l) (zs k) = sameR n m l k := by
  show Ks547Neutral.out (Ks547.two n m (Ks547Neutral.nats (zs l)) (Ks547Neutral.nats (zs k)) fun g h => match Ks547.naming g h with
    | none => Ks547.no (-33)
    | some f => Ks547.told f) = _
  rw [nats_ints, nats_ints, two_eq]
  unfold sameR
  congr 1
  have e : Ks547.naming ⟨n, prs l⟩ ⟨m, prs k⟩ = (mapsR n m (prs l) (prs k)).find? (names n m (prs l) (prs k)) := by
    unfold Ks547.naming
    rw [← maps_eq]
    refine find_congr fun f hf => ?_
    have hk := (List.mem_filter.mp hf).2
    unfold Ks547.same names
    rw [hk]
    rfl
  rw [e]
  cases c : (mapsR n m (prs l) (prs k)).find? (names n m (prs l) (prs k)) with
  | none => rfl
  | some f =>
    have hf : f ∈ mapsR n m (prs l) (prs k) := List.mem_of_find?_eq_some c
    have hl := (rows_mem m n f (List.mem_filter.mp hf).1).1
    show (f.length : Int) :: f.map Int.ofNat = (n : Int) :: zs f
    rw [hl]
    rfl
def afterR (n m o : Nat) (l k j f e : List Nat) : List Int := two n m l k (if (graphOf o j).isSome = true then
    (if keeps ⟨n, prs l⟩ ⟨m, prs k⟩ e = true ∧ keeps ⟨m, prs k⟩ ⟨o, prs j⟩ f = true then (n : Int) :: zs (e.map fun x => f.getD x 0) else [-13]) else [-22])
theorem after_eq (n m o : Nat) (l k j f e : List Nat) : PyKs547.after n m o (zs l) (zs k) (zs j) (zs f) (zs e) = afterR n m o l k j f e := by
  show Ks547Neutral.out (Ks547.two n m (Ks547Neutral.nats (zs l)) (Ks547Neutral.nats (zs k)) fun g h => Ks547.graph o (Ks547Neutral.nats (zs j)) fun i =>
    if keeps g h (Ks547Neutral.nats (zs e)) = false ∨ keeps h i (Ks547Neutral.nats (zs f)) = false then Ks547.no (-13) else Ks547.told (Ks547.after (Ks547Neutral.nats (zs f)) (Ks547Neutral.nats (zs e)))) = _
  rw [nats_ints, nats_ints, nats_ints, nats_ints, nats_ints, two_eq]
  unfold afterR
  congr 1
  unfold Ks547.graph
  cases c : graphOf o j with
  | none => rfl
  | some x =>
    obtain ⟨_, _, rfl, _, _⟩ := graph_some c
    rw [if_pos (show (some (⟨o, prs j⟩ : Graph)).isSome = true from rfl)]
    dsimp only
    by_cases d : keeps ⟨n, prs l⟩ ⟨m, prs k⟩ e = true ∧ keeps ⟨m, prs k⟩ ⟨o, prs j⟩ f = true
    · rw [if_pos d, if_neg (by rw [d.1, d.2]; simp)]
      have hk : (e.length == n) = true := by
        have := d.1
        unfold keeps at this
        rw [Bool.and_eq_true, Bool.and_eq_true] at this
        exact this.1.1
      have hl : e.length = n := eq_of_beq hk
      show (((Ks547.after f e).length : Nat) : Int) :: (Ks547.after f e).map Int.ofNat = (n : Int) :: zs (e.map fun x => f.getD x 0)
      unfold Ks547.after
      rw [List.length_map, hl]
      rfl
    · rw [if_neg d, if_pos ?_]
      · rfl
      · cases c1 : keeps ⟨n, prs l⟩ ⟨m, prs k⟩ e with
        | false => exact .inl rfl
        | true =>
          cases c2 : keeps ⟨m, prs k⟩ ⟨o, prs j⟩ f with
          | false => exact .inr rfl
          | true => exact (d ⟨c1, c2⟩).elim
end Am
namespace Am
open PySem PySem.Spec PyProof.Rows L2
open PySem.W (Codec)
open Ks547 (rows pairsOf graphOf apart)
/-! ### values, rows in the heap -/
def iv (l : List Nat) : List V := l.map fun (x : Nat) => V.int (x : Int)
theorem iv_at {l : List Nat} {j x : Nat} (h : l[j]? = some x) : (iv l)[j]? = some (V.int (x : Int)) := by
  unfold iv
  rw [List.getElem?_map, h]
  rfl
theorem iv_len (l : List Nat) : (iv l).length = l.length := List.length_map ..
theorem iv_snoc (l : List Nat) (x : Nat) : iv l ++ [V.int (x : Int)] = iv (l ++ [x]) := by
  unfold iv
  rw [List.map_append]
  rfl
theorem iv_zs (l : List Nat) : (zs l).map V.int = iv l := by
  unfold iv zs
  rw [List.map_map]
  rfl
theorem same_upd {H : Hp} {p : Addr} {o : HO} (h : H p = none) : Same H (upd H p o) := fun b x e => by
  rw [upd_ne (ne_of_none e h)]
  exact e
theorem small_of {n : Nat} (h : n ≤ 1000000) : n < sizeLine := Nat.lt_of_le_of_lt h (by decide)
inductive RowsOf (H : Hp) : List Addr → List (List Nat) → Prop
  | nil : RowsOf H [] []
  | cons {a : Addr} {as : List Addr} {r : List Nat} {rs : List (List Nat)} : H a = some (.lst (iv r)) → RowsOf H as rs → RowsOf H (a :: as) (r :: rs)
theorem RowsOf.mono {H H' : Hp} {as : List Addr} {rs : List (List Nat)} (R : RowsOf H as rs) (k : ∀ a ∈ as, ∀ o, H a = some o → H' a = some o) : RowsOf H' as rs := by
  induction R with
  | nil => exact .nil
  | cons h _ ih => exact .cons (k _ List.mem_cons_self _ h) (ih fun a m => k a (List.mem_cons_of_mem _ m))
theorem RowsOf.snoc {H : Hp} {as : List Addr} {rs : List (List Nat)} (R : RowsOf H as rs) {a : Addr} {r : List Nat} (h : H a = some (.lst (iv r))) : RowsOf H (as ++ [a]) (rs ++ [r]) := by
  induction R with
  | nil => exact .cons h .nil
  | cons h' _ ih => exact .cons h' ih
theorem RowsOf.len {H : Hp} {as : List Addr} {rs : List (List Nat)} (R : RowsOf H as rs) : as.length = rs.length := by
  induction R with
  | nil => rfl
  | cons _ _ ih => rw [List.length_cons, List.length_cons, ih]
theorem RowsOf.get {H : Hp} {as : List Addr} {rs : List (List Nat)} (R : RowsOf H as rs) : ∀ {i : Nat} {a : Addr}, as[i]? = some a → ∃ r, rs[i]? = some r ∧ H a = some (.lst (iv r)) := by
  induction R with
  | nil =>
    intro i a h
    simp at h
  | @cons b bs r rs h _ ih =>
    intro i a e
    cases i with
    | zero =>
      have e : b = a := Option.some.inj e
      subst e
      exact ⟨r, rfl, h⟩
    | succ i => exact ih e
theorem RowsOf.mem {H : Hp} {as : List Addr} {rs : List (List Nat)} (R : RowsOf H as rs) {a : Addr} (m : a ∈ as) : ∃ o, H a = some o := by
  induction R with
  | nil => cases m
  | cons h _ ih =>
    rcases List.mem_cons.mp m with e | m
    · rw [e]
      exact ⟨_, h⟩
    · exact ih m
/-- at l a list of lists of numbers, which stand apart from it -/
structure RowsAt (H : Hp) (l : Addr) (rs : List (List Nat)) : Prop where
  ex : ∃ as : List Addr, H l = some (.lst (as.map V.ref)) ∧ RowsOf H as rs ∧ l ∉ as
theorem refs_at {as : List Addr} {i : Nat} {y : V} (h : (as.map V.ref)[i]? = some y) : ∃ c, as[i]? = some c ∧ y = V.ref c := by
  rw [List.getElem?_map] at h
  cases e : as[i]? with
  | none =>
    rw [e] at h
    cases h
  | some c =>
    rw [e] at h
    exact ⟨c, rfl, (Option.some.inj h).symm⟩
theorem refs_snoc (as : List Addr) (a : Addr) : as.map V.ref ++ [V.ref a] = (as ++ [a]).map V.ref := by
  rw [List.map_append]
  rfl
/-- one more, at its end -/
theorem RowsOf.push {H : Hp} {l : Addr} {as : List Addr} {rs : List (List Nat)} (R : RowsOf H as rs) (n : l ∉ as) {a : Addr} {r : List Nat} (h : H a = some (.lst (iv r))) (na : a ≠ l) :
    RowsAt (upd H l (.lst (as.map V.ref ++ [V.ref a]))) l (rs ++ [r]) := by
  refine ⟨as ++ [a], by rw [upd_same, refs_snoc], ?_, fun m => ?_⟩
  · refine (R.mono (H' := upd H l (.lst (as.map V.ref ++ [V.ref a]))) fun b m o e => ?_).snoc ?_
    · rw [upd_ne fun z => n (by rw [← z]; exact m)]
      exact e
    · rw [upd_ne na]
      exact h
  · rcases List.mem_append.mp m with m | m
    · exact n m
    · exact na (List.mem_singleton.mp m).symm
theorem rg2 {L : Nat} (h : L ≤ 60) : RgC 0 (L : Int) 2 ((L + 1) / 2) := by
  have e : Builtin.Range.rangeSize 0 (L : Int) 2 = (((L + 1) / 2 : Nat) : Int) := by
    unfold Builtin.Range.rangeSize
    simp only [show (2 : Int) > 0 by decide, if_true]
    split <;> omega
  refine ⟨by decide, by decide, ?_, e⟩
  exact (show ∀ L : Nat, L < 61 → Builtin.Range.small 0 (L : Int) 2 = true by decide +kernel) L (by omega)
/-! ### the text, what is known of a def that is called -/
def topS (i : Nat) : Stmt := PySem.Challenge.pw_arrowmaps_s03_is_map.main.body.getD i (.Pass ⟨0, 0, 0, 0⟩)
structure Txt (mg : Str → Option Value) : Prop where
  len : mg "len" = none
  range : mg "range" = none
  set : mg "set" = none
  max : mg "max" = none
  all : mg "all" = none
  int : mg "int" = none
structure Cl (P : Program) (w : World) (K : PySem.W.Frag) (mg : Str → Option Value) (base : Heap) (x : Str) (st : Stmt) (ps : List Str) (lv : Nat) (sp : Sp) (f : Addr) (fd : FuncData) : Prop where
  F : Fun K x x st f fd
  b : Binds K fd ps []
  g : mg x = some (.ref f)
  ok : FnOk P w K mg base CX0 lv f fd ps sp
def rLenS (K : PySem.W.Frag) (xs : List V) (H : Hp) (Q : V → Hp → Prop) : Prop := ∃ p ys, xs = [.ref p] ∧ (SqL K H p ys ∨ SqT K H p ys) ∧ Q (.int ys.length) H
def Tab (kvs : List (List Key × V)) (r : List (Nat × Nat)) : Prop := ∀ u v : Nat, (valV kvs [Sum.inl (u : Int), Sum.inl (v : Int)]).isSome = r.contains (u, v)
theorem getD_of {l : List Nat} {i : Nat} (h : i < l.length) : l[i]? = some (l.getD i 0) := by
  rw [List.getD_eq_getElem?_getD, List.getElem?_eq_getElem h]
  rfl
theorem getD_no {l : List Nat} {i : Nat} (h : l.length ≤ i) : l.getD i 0 = 0 := by
  rw [List.getD_eq_getElem?_getD, List.getElem?_eq_none h]
  rfl
/-- what the arrows become -/
def becR (l f : List Nat) : List Nat := l.map fun x => f.getD x 0
theorem bec_len (l f : List Nat) : (becR l f).length = l.length := List.length_map ..
theorem prs_map (g : Nat → Nat) : ∀ l : List Nat, prs (l.map g) = (prs l).map fun p => (g p.1, g p.2)
  | [] => rfl
  | [_] => rfl
  | u :: v :: l => by
    show (g u, g v) :: prs (l.map g) = (g u, g v) :: (prs l).map fun p => (g p.1, g p.2)
    rw [prs_map g l]
theorem bec_ev {l : List Nat} (f : List Nat) (h : l.length = 2 * (prs l).length) : (becR l f).length = 2 * (prs (becR l f)).length := by
  unfold becR
  rw [prs_map, List.length_map, List.length_map]
  exact h
def inR (l : List (Nat × Nat)) (r : List (Nat × Nat)) : Bool := l.all fun p => r.contains p
theorem bec_keeps (l f : List Nat) (s : List (Nat × Nat)) : inR (prs (becR l f)) s = keepsR (prs l) s f := by
  unfold inR becR keepsR
  rw [prs_map, List.all_map]
  rfl
theorem bec_hits (n m : Nat) (l k f : List Nat) : inR (prs k) (prs (becR l f)) = Ks547.ontoArrows ⟨n, prs l⟩ ⟨m, prs k⟩ f := by
  unfold inR becR Ks547.ontoArrows
  rw [prs_map]
  show (prs k).all _ = (prs k).all _
  congr 1
  funext q
  rw [Bool.eq_iff_iff, List.contains_iff_mem, List.mem_map, List.any_eq_true]
  constructor
  · rintro ⟨p, hp, rfl⟩
    refine ⟨p, hp, ?_⟩
    rw [Bool.and_eq_true]
    exact ⟨beq_self_eq_true _, beq_self_eq_true _⟩
  · rintro ⟨p, hp, e⟩
    rw [Bool.and_eq_true] at e
    exact ⟨p, hp, Prod.ext (eq_of_beq e.1) (eq_of_beq e.2)⟩
/-! ### is_graph -/
abbrev sGraph : Stmt := topS 3
theorem scG : FnScope ["places", "arrows", "last_rank", "i", "rank"] ["places", "arrows"] (defScope sGraph) := ⟨rfl, rfl, rfl, by decide +kernel, rfl, by decide +kernel, by decide +kernel⟩
def spGraph (K : PySem.W.Frag) : Sp := fun vs H Q _ => ∃ (p : Nat) (a : Addr) (l : List Nat), vs = [.int p, .ref a] ∧ SqL K H a (iv l) ∧ l.length ≤ 60 ∧ Q (.bl (graphOf p l).isSome) H
section
variable {P : Program} {w : World} {K : PySem.W.Frag} {mg : Str → Option Value} {base : Heap} {tP tN tS tM : Tok} {f1 f2 f3 f4 f5 f6 f7 f8 : Addr} {d1 d2 d3 d4 d5 d6 d7 d8 : FuncData}
theorem ok_is_graph {f : Addr} {fd : FuncData} (F : Fun K "is_graph" "is_graph" sGraph f fd) (T : Txt mg) (mP : mg "MOST_PLACES" = some (.int 5 tP)) : FnOk P w K mg base CX0 1 f fd ["places", "arrows"] (spGraph K) := by
  refine F.ok scG (fun vs H Q E h => ?_) (fun cdv A outer s H vs Q E hr h => ?_)
  · obtain ⟨p, a, l, rfl, _⟩ := h
    rfl
  · obtain ⟨p, a, l, rfl, hS, hlen, q⟩ := h
    refine ⟨_, pss_cons (ps_if (PW.pt (pw_or (pt_cmpR op_lt (pv 0) pe_int (nomark _)) (pw_or (pt_cmpR op_gt (pv 0) (pe_glob (v := .int 5) rfl mP ⟨_, rfl⟩) (nomark _))
          (pw_or1 (pt_cmpR op_ne (pe_op op_mod (pe_callB call_len_seq (by rfl) T.len PySem.boot_len (pa_cons (pv 1) pa_nil)) pe_int) pe_int (nomark _)))))) (pss_one (ps_ret pe_bl)) pss_nil)
      (pss_cons (ps_set (i := 2) scG.nd rfl (.inl rfl) (pe_un un_neg pe_int))
      (pss_cons (ps_for PassesOwn.never rfl (pi_range3 (by rfl) T.range (pa_cons pe_int (pa_cons (pe_callB call_len_seq (by rfl) T.len PySem.boot_len (pa_cons (pv 1) pa_nil)) (pa_cons pe_int pa_nil)))) (pg_name (i := 3) scG.nd rfl (.inl rfl))
        (pss_cons (ps_if (PW.pt (pw_or (pt_cmpR op_ge (pe_ix ix_list (pv 1) (pv 3) (fun _ _ => rfl)) (pv 0) (nomark _))
            (pw_or1 (pt_cmpR op_ge (pe_ix ix_list (pv 1) (pe_op op_add (pv 3) pe_int) (fun _ _ => rfl)) (pv 0) (nomark _))))) (pss_one (ps_ret pe_bl)) pss_nil)
        (pss_cons (ps_set (i := 4) scG.nd rfl (.inl rfl) (pe_op op_add (pe_op op_mul (pe_ix ix_list (pv 1) (pv 3) (fun _ _ => rfl)) (pv 0)) (pe_ix ix_list (pv 1) (pe_op op_add (pv 3) pe_int) (fun _ _ => rfl))))
        (pss_cons (ps_if (pt_cmpR op_le (pv 4) (pv 2) (nomark _)) (pss_one (ps_ret pe_bl)) pss_nil)
        (pss_one (ps_set (i := 2) scG.nd rfl (.inl rfl) (pv 4)))))))
      (pss_one (ps_ret pe_bl)))), ?_⟩
    -- places < 1 or places > MOST_PLACES or len(arrows) % 2 != 0
    refine ⟨_, rfl, _, _, rfl, rfl, _, rfl, ite2 (fun c1 => iteT ?_) (fun c1 => ?_)⟩
    · have c1 := of_decide_eq_true c1
      rw [graph_no (.inl (by omega))] at q
      exact q
    have c1 : ¬ ((p : Int) < 1) := fun z => c1 (decide_eq_true z)
    refine ⟨_, rfl, _, _, rfl, rfl, _, rfl, ite2 (fun c2 => iteT ?_) (fun c2 => ?_)⟩
    · have c2 := of_decide_eq_true c2
      rw [graph_no (.inr (by omega))] at q
      exact q
    have c2 : ¬ ((5 : Int) < p) := fun z => c2 (decide_eq_true z)
    refine ⟨_, rfl, a, _, rfl, .inl hS, _, _, rfl, rfl, (by show (0 : Int) < 2; decide), rfl, _, rfl, ite2 (fun c3 => ?_) (fun c3 => ?_)⟩
    · have c3 : ¬ (V.int (((iv l).length : Int) % 2) = V.int 0) := by simpa using c3
      rw [iv_len] at c3
      rw [graph_odd (fun z => c3 (congrArg V.int (by omega)))] at q
      exact q
    have c3 : V.int (((iv l).length : Int) % 2) = V.int 0 := by simpa using c3
    rw [iv_len] at c3
    have c3 := V.int.inj c3
    have hgr : scan p (-1) l = (graphOf p l).isSome := scan_graph (by omega) (by omega)
    -- last_rank = -1; for i in range(0, len(arrows), 2)
    refine ⟨_, rfl, _, rfl, a, _, rfl, .inl hS, 0, _, 2, (l.length + 1) / 2, rfl, (by rw [iv_len]; exact rg2 hlen), ?_⟩
    refine for_rangeC (lo := 0) (c := 2) (n := (l.length + 1) / 2) (fun i σ H' => H' = H ∧ ∃ (last : Int) (v3 v4 : Option V), σ = [some (.int p), some (.ref a), some (.int last), v3, v4] ∧ scan p last (l.drop (2 * i)) = scan p (-1) l)
      ⟨rfl, -1, none, none, rfl, rfl⟩ ?_ ?_
    · rintro i σ H' hi ⟨rfl, last, v3, v4, rfl, hsc⟩
      have h1 : 2 * i < l.length := by omega
      have h2 : 2 * i + 1 < l.length := by omega
      obtain ⟨u, hu⟩ : ∃ u, l[2 * i]? = some u := ⟨_, List.getElem?_eq_getElem h1⟩
      obtain ⟨v, hv⟩ : ∃ v, l[2 * i + 1]? = some v := ⟨_, List.getElem?_eq_getElem h2⟩
      have e1 : (0 + (i : Int) * 2) = ((2 * i : Nat) : Int) := by omega
      have e2 : (0 + (i : Int) * 2 + 1) = ((2 * i + 1 : Nat) : Int) := by omega
      have a1 := at_of e1 (iv_at hu)
      have a2 := at_of e2 (iv_at hv)
      have hd := drop_two hu hv
      rw [hd] at hsc
      have hsc : (if p ≤ u ∨ p ≤ v then false else if ((u : Int) * p + v) ≤ last then false else scan p ((u : Int) * p + v) (l.drop (2 * (i + 1)))) = scan p (-1) l := hsc
      refine ⟨_, rfl, _, rfl, a, _, _, _, rfl, rfl, hS, a1, _, rfl, _, _, rfl, rfl, _, rfl, ite2 (fun d1 => iteT ?_) (fun d1 => ?_)⟩
      · have d1 := of_decide_eq_true d1
        rw [if_pos (.inl (by omega)), hgr] at hsc
        rw [← hsc] at q
        exact q
      have d1 : ¬ ((p : Int) ≤ u) := fun z => d1 (decide_eq_true z)
      refine ⟨_, rfl, _, rfl, _, _, rfl, rfl, a, _, _, _, rfl, rfl, hS, a2, _, rfl, _, _, rfl, rfl, _, rfl, ite2 (fun d2 => ?_) (fun d2 => ?_)⟩
      · have d2 := of_decide_eq_true d2
        rw [if_pos (.inr (by omega)), hgr] at hsc
        rw [← hsc] at q
        exact q
      have d2 : ¬ ((p : Int) ≤ v) := fun z => d2 (decide_eq_true z)
      rw [if_neg (by omega)] at hsc
      -- rank = arrows[i] * places + arrows[i + 1]
      refine ⟨_, rfl, _, rfl, a, _, _, _, rfl, rfl, hS, a1, _, rfl, _, _, rfl, rfl, .inr ⟨by omega, by omega⟩, _, rfl, _, rfl, _, _, rfl, rfl, a, _, _, _, rfl, rfl, hS, a2, _, _, rfl, rfl, ?_⟩
      refine ⟨_, rfl, _, rfl, _, _, rfl, rfl, _, rfl, ite2 (fun d3 => ?_) (fun d3 => ?_)⟩
      · have d3 := of_decide_eq_true d3
        rw [if_pos d3, hgr] at hsc
        rw [← hsc] at q
        exact q
      have d3 : ¬ ((u : Int) * p + v ≤ last) := fun z => d3 (decide_eq_true z)
      rw [if_neg d3] at hsc
      exact ⟨_, rfl, rfl, _, _, _, rfl, hsc⟩
    · rintro σ H' ⟨rfl, last, v3, v4, rfl, hsc⟩
      have e : l.drop (2 * ((l.length + 1) / 2)) = [] := List.drop_eq_nil_of_le (by omega)
      rw [e] at hsc
      have hsc : true = scan p (-1) l := hsc
      rw [← hgr, ← hsc] at q
      exact q
end
abbrev C_is_graph (P : Program) (w : World) (K : PySem.W.Frag) (mg : Str → Option Value) (base : Heap) (f : Addr) (fd : FuncData) : Prop := Cl P w K mg base "is_graph" sGraph ["places", "arrows"] 1 (spGraph K) f fd
/-! ### arrow_table -/
abbrev sTable : Stmt := topS 4
theorem scT : FnScope ["arrows", "table", "i"] ["arrows"] (defScope sTable) := ⟨rfl, rfl, rfl, by decide +kernel, rfl, by decide +kernel, by decide +kernel⟩
def spTable (K : PySem.W.Frag) : Sp := fun vs H Q _ => ∃ (a : Addr) (l : List Nat), vs = [.ref a] ∧ SqL K H a (iv l) ∧ l.length = 2 * (prs l).length ∧ l.length ≤ 60 ∧
  ∀ (H' : Hp) (d : Addr) (kvs : List (List Key × V)), Same H H' → H' d = some (.dT kvs) → Tab kvs (prs l) → Q (.ref d) H'
section
variable {P : Program} {w : World} {K : PySem.W.Frag} {mg : Str → Option Value} {base : Heap} {tP tN tS tM : Tok} {f1 f2 f3 f4 f5 f6 f7 f8 : Addr} {d1 d2 d3 d4 d5 d6 d7 d8 : FuncData}
theorem Tab.nil : Tab [] [] := fun _ _ => rfl
theorem Tab.put {kvs : List (List Key × V)} {r : List (Nat × Nat)} (h : Tab kvs r) (a b : Nat) (y : V) : Tab (putK kvs [Sum.inl (a : Int), Sum.inl (b : Int)] y) (r ++ [(a, b)]) := by
  intro u v
  have e : (r ++ [(a, b)]).contains (u, v) = (r.contains (u, v) || decide ((u, v) = (a, b))) := by
    rw [Bool.eq_iff_iff]
    simp [List.mem_append]
  rw [valV_put, e, ← h u v]
  by_cases c : (u, v) = (a, b)
  · cases c
    rw [if_pos rfl]
    simp
  · rw [if_neg fun z => c ?_, decide_eq_false c, Bool.or_false]
    injection z with z1 z2
    injection z2 with z2 _
    have z1 : (u : Int) = a := Sum.inl.inj z1
    have z2 : (v : Int) = b := Sum.inl.inj z2
    have z1 : u = a := by omega
    have z2 : v = b := by omega
    rw [z1, z2]
theorem ok_arrow_table {f : Addr} {fd : FuncData} (F : Fun K "arrow_table" "arrow_table" sTable f fd) (T : Txt mg) : FnOk P w K mg base CX0 1 f fd ["arrows"] (spTable K) := by
  refine F.ok scT (fun vs H Q E h => ?_) (fun cdv A outer s H vs Q E hr h => ?_)
  · obtain ⟨a, l, rfl, _⟩ := h
    rfl
  · obtain ⟨a, l, rfl, hS, hev, hlen, q⟩ := h
    refine ⟨_, pss_cons (ps_set (i := 1) scT.nd rfl (.inl rfl) pe_dnewT)
      (pss_cons (ps_for PassesOwn.never rfl (pi_range3 (by rfl) T.range (pa_cons pe_int (pa_cons (pe_callB call_len_seq (by rfl) T.len PySem.boot_len (pa_cons (pv 0) pa_nil)) (pa_cons pe_int pa_nil)))) (pg_name (i := 2) scT.nd rfl (.inl rfl))
        (pss_one (ps_dput (hu_of hr) (pv 1) (pe_tup (pa_cons (pe_ix ix_list (pv 0) (pv 2) (fun _ _ => rfl)) (pa_cons (pe_ix ix_list (pv 0) (pe_op op_add (pv 2) pe_int) (fun _ _ => rfl)) pa_nil))) pe_bl rfl)))
      (pss_one (ps_ret (pv 1)))), ?_⟩
    -- table = {}
    intro d nd
    have s1 : Same H (upd H d (.dT [])) := same_upd nd
    -- for i in range(0, len(arrows), 2)
    refine ⟨_, rfl, a, _, rfl, .inl (s1.seq hS), 0, _, 2, (l.length + 1) / 2, rfl, (by rw [iv_len]; exact rg2 hlen), ?_⟩
    refine for_rangeC (lo := 0) (c := 2) (n := (l.length + 1) / 2) (fun i σ H' => Same H H' ∧ ∃ (kvs : List (List Key × V)) (v2 : Option V), σ = [some (.ref a), some (.ref d), v2] ∧ H' d = some (.dT kvs) ∧ kvs.length ≤ i ∧ Tab kvs ((prs l).take i))
      ⟨s1, [], none, rfl, upd_same, Nat.le_refl _, Tab.nil⟩ ?_ ?_
    · rintro i σ H' hi ⟨s2, kvs, v2, rfl, hd, hk, tab⟩
      have hi' : i < (prs l).length := by omega
      obtain ⟨⟨u, v⟩, huv⟩ : ∃ p, (prs l)[i]? = some p := ⟨_, List.getElem?_eq_getElem hi'⟩
      obtain ⟨hu, hv⟩ := prs_at huv
      have e1 : (0 + (i : Int) * 2) = ((2 * i : Nat) : Int) := by omega
      have e2 : (0 + (i : Int) * 2 + 1) = ((2 * i + 1 : Nat) : Int) := by omega
      have a1 := at_of e1 (iv_at hu)
      have a2 := at_of e2 (iv_at hv)
      refine ⟨_, rfl, _, rfl, _, rfl, a, _, _, _, rfl, rfl, s2.seq hS, a1, _, rfl, _, rfl, _, _, rfl, rfl, a, _, _, _, rfl, rfl, s2.seq hS, a2, (by show 2 ≤ sizeLine; decide), fun t ht => ?_⟩
      have s3 : Same H' (upd H' t (.tup [.int (u : Int), .int (v : Int)])) := same_upd ht
      refine ⟨d, _, rfl, DPut.t (k := [Sum.inl (u : Int), Sum.inl (v : Int)]) (s3 _ _ hd) upd_same (small_of (by omega)), ?_⟩
      refine ⟨fun b o e => ?_, _, _, rfl, upd_same, Nat.le_trans (length_putK _ _ _) (by omega), ?_⟩
      · rw [upd_ne (ne_of_none e nd)]
        exact s3 _ _ (s2 _ _ e)
      · rw [take_snoc huv]
        exact tab.put u v _
    · rintro σ H' ⟨s2, kvs, v2, rfl, hd, hk, tab⟩
      rw [List.take_of_length_le (by omega)] at tab
      exact ⟨_, rfl, q H' d kvs s2 hd tab⟩
end
abbrev C_arrow_table (P : Program) (w : World) (K : PySem.W.Frag) (mg : Str → Option Value) (base : Heap) (f : Addr) (fd : FuncData) : Prop := Cl P w K mg base "arrow_table" sTable ["arrows"] 1 (spTable K) f fd
/-! ### all_in_table -/
abbrev sAllIn : Stmt := topS 5
theorem scI : FnScope ["arrows", "table", "i"] ["arrows", "table"] (defScope sAllIn) := ⟨rfl, rfl, rfl, by decide +kernel, rfl, by decide +kernel, by decide +kernel⟩
def spAllIn (K : PySem.W.Frag) : Sp := fun vs H Q _ => ∃ (a d : Addr) (l : List Nat) (kvs : List (List Key × V)) (r : List (Nat × Nat)), vs = [.ref a, .ref d] ∧ SqL K H a (iv l) ∧
  l.length = 2 * (prs l).length ∧ l.length ≤ 60 ∧ H d = some (.dT kvs) ∧ Tab kvs r ∧ ∀ H' : Hp, Same H H' → Q (.bl (inR (prs l) r)) H'
section
variable {P : Program} {w : World} {K : PySem.W.Frag} {mg : Str → Option Value} {base : Heap} {tP tN tS tM : Tok} {f1 f2 f3 f4 f5 f6 f7 f8 : Addr} {d1 d2 d3 d4 d5 d6 d7 d8 : FuncData}
theorem ok_all_in_table {f : Addr} {fd : FuncData} (F : Fun K "all_in_table" "all_in_table" sAllIn f fd) (T : Txt mg) : FnOk P w K mg base CX0 1 f fd ["arrows", "table"] (spAllIn K) := by
  refine F.ok scI (fun vs H Q E h => ?_) (fun cdv A outer s H vs Q E hr h => ?_)
  · obtain ⟨a, d, l, kvs, r, rfl, _⟩ := h
    rfl
  · obtain ⟨a, d, l, kvs, r, rfl, hS, hev, hlen, hd, tab, q⟩ := h
    refine ⟨_, pss_cons (ps_for PassesOwn.never rfl (pi_range3 (by rfl) T.range (pa_cons pe_int (pa_cons (pe_callB call_len_seq (by rfl) T.len PySem.boot_len (pa_cons (pv 0) pa_nil)) (pa_cons pe_int pa_nil)))) (pg_name (i := 2) scI.nd rfl (.inl rfl))
        (pss_one (ps_if (pt_cmp (pc_dnotin (hu_of hr) (pe_tup (pa_cons (pe_ix ix_list (pv 0) (pv 2) (fun _ _ => rfl))
          (pa_cons (pe_ix ix_list (pv 0) (pe_op op_add (pv 2) pe_int) (fun _ _ => rfl)) pa_nil))) (pv 1))) (pss_one (ps_ret pe_bl)) pss_nil)))
      (pss_one (ps_ret pe_bl)), ?_⟩
    refine ⟨_, rfl, a, _, rfl, .inl hS, 0, _, 2, (l.length + 1) / 2, rfl, (by rw [iv_len]; exact rg2 hlen), ?_⟩
    refine for_rangeC (lo := 0) (c := 2) (n := (l.length + 1) / 2) (fun i σ H' => Same H H' ∧ (∃ v2 : Option V, σ = [some (.ref a), some (.ref d), v2]) ∧ inR ((prs l).take i) r = true)
      ⟨Same.refl H, ⟨none, rfl⟩, rfl⟩ ?_ ?_
    · rintro i σ H' hi ⟨s2, ⟨v2, rfl⟩, hk⟩
      have hi' : i < (prs l).length := by omega
      obtain ⟨⟨u, v⟩, huv⟩ : ∃ p, (prs l)[i]? = some p := ⟨_, List.getElem?_eq_getElem hi'⟩
      obtain ⟨hu, hv⟩ := prs_at huv
      have hm : (u, v) ∈ prs l := List.mem_of_getElem? huv
      have e1 : (0 + (i : Int) * 2) = ((2 * i : Nat) : Int) := by omega
      have e2 : (0 + (i : Int) * 2 + 1) = ((2 * i + 1 : Nat) : Int) := by omega
      have a1 := at_of e1 (iv_at hu)
      have a2 := at_of e2 (iv_at hv)
      refine ⟨_, rfl, _, rfl, a, _, _, _, rfl, rfl, s2.seq hS, a1,
        _, rfl, _, rfl, _, _, rfl, rfl, a, _, _, _, rfl, rfl, s2.seq hS, a2, (by show 2 ≤ sizeLine; decide), fun t ht => ?_⟩
      have s3 : Same H' (upd H' t (.tup [.int (u : Int), .int (v : Int)])) := same_upd ht
      refine ⟨_, rfl, d, _, rfl, DGet.t (k := [Sum.inl (u : Int), Sum.inl (v : Int)]) (s3 _ _ (s2 _ _ hd)) upd_same, _, rfl, ?_⟩
      rw [tab]
      refine ite2 (fun c => ?_) (fun c => ?_)
      · have c : r.contains (u, v) = false := by simpa using c
        have e : inR (prs l) r = false := by
          unfold inR
          refine Bool.eq_false_iff.mpr fun z => ?_
          have := List.all_eq_true.mp z (u, v) hm
          rw [c] at this
          cases this
        have q := q _ (s2.trans s3)
        rw [e] at q
        exact q
      · have c : r.contains (u, v) = true := by simpa using c
        refine ⟨s2.trans s3, ⟨_, rfl⟩, ?_⟩
        unfold inR at hk ⊢
        rw [take_snoc huv, List.all_append, hk]
        simp only [List.all_cons, List.all_nil, Bool.and_true, Bool.true_and]
        exact c
    · rintro σ H' ⟨s2, ⟨v2, rfl⟩, hk⟩
      rw [List.take_of_length_le (by omega)] at hk
      have q := q H' s2
      rw [hk] at q
      exact q
end
abbrev C_all_in_table (P : Program) (w : World) (K : PySem.W.Frag) (mg : Str → Option Value) (base : Heap) (f : Addr) (fd : FuncData) : Prop := Cl P w K mg base "all_in_table" sAllIn ["arrows", "table"] 1 (spAllIn K) f fd
/-! ### what_becomes -/
abbrev sBec : Stmt := topS 6
theorem scB : FnScope ["arrows", "given", "place"] ["arrows", "given"] (defScope sBec) := ⟨rfl, rfl, rfl, by decide +kernel, rfl, by decide +kernel, by decide +kernel⟩
def spBec (K : PySem.W.Frag) : Sp := fun vs H Q _ => ∃ (a b : Addr) (l f : List Nat), vs = [.ref a, .ref b] ∧ SqL K H a (iv l) ∧ SqL K H b (iv f) ∧ l.length ≤ 60 ∧
  ∀ (H' : Hp) (p : Addr), Same H H' → H' p = some (.lst (iv (becR l f))) → Q (.ref p) H'
section
variable {P : Program} {w : World} {K : PySem.W.Frag} {mg : Str → Option Value} {base : Heap} {tP tN tS tM : Tok} {f1 f2 f3 f4 f5 f6 f7 f8 : Addr} {d1 d2 d3 d4 d5 d6 d7 d8 : FuncData}
theorem ok_what_becomes {f : Addr} {fd : FuncData} (F : Fun K "what_becomes" "what_becomes" sBec f fd) (T : Txt mg) : FnOk P w K mg base CX0 1 f fd ["arrows", "given"] (spBec K) := by
  refine F.ok scB (fun vs H Q E h => ?_) (fun cdv A outer s H vs Q E hr h => ?_)
  · obtain ⟨a, b, l, g, rfl, _⟩ := h
    rfl
  · obtain ⟨a, b, l, g, rfl, hA, hB, hlen, q⟩ := h
    refine ⟨_, pss_one (ps_ret (pe_lc (own := [("place", 2)]) (g := gName 2) (by rfl) scB.nd (pi_list (pv 0))
        (blkOk_by (own := [("place", 2)]) (N := ["arrows", "given", "place"]) (sc := defScope sBec) (by decide +kernel))
        (fun _ _ _ _ _ => pg_name (i := 2) scB.nd rfl (Or.inl rfl))
        (fun _ _ _ _ _ => pts_nil)
        (fun _ _ _ _ _ => pe_ifExp (pt_cmpR op_lt (pv 2) (pe_callB (r := rLenS K) call_len_seq (by rfl) T.len PySem.boot_len (pa_cons (pv 1) pa_nil)) (nomark _)) (pe_ix (r := rIxL K) ix_list (pv 1) (pv 2) (fun _ _ => rfl)) pe_int))), ?_⟩
    refine ⟨_, rfl, a, rfl, ⟨_, hA⟩, fun D nD => ?_⟩
    have s1 : Same H (upd H D (.lst [])) := same_upd nD
    refine lc_list (K := K) (a := a) (xs := iv l) (fun i H' => Same H H' ∧ H' D = some (.lst (iv (becR (l.take i) g))))
      ⟨s1, upd_same⟩ (fun i H' _ ⟨s2, _⟩ => s2.seq hA) ?_ ?_
    · rintro i y H1 hi ⟨s2, hD⟩
      have hil : i < l.length := by
        have := (List.getElem?_eq_some_iff.mp hi).1
        rw [iv_len] at this
        exact this
      obtain ⟨x, hx⟩ : ∃ x, l[i]? = some x := ⟨_, List.getElem?_eq_getElem hil⟩
      have ey : V.int (x : Int) = y := Option.some.inj ((iv_at hx).symm.trans hi)
      subst ey
      have nx : ∀ H2 : Hp, H2 = upd H1 D (.lst (iv (becR (l.take i) g) ++ [V.int ((g.getD x 0 : Nat) : Int)])) → Same H H2 ∧ H2 D = some (.lst (iv (becR (l.take (i + 1)) g))) := by
        rintro H2 rfl
        refine ⟨fun c o e => ?_, ?_⟩
        · rw [upd_ne (ne_of_none e nD)]
          exact s2 _ _ e
        · rw [upd_same, take_snoc hx, iv_snoc]
          unfold becR
          rw [List.map_append]
          rfl
      have few : (iv (becR (l.take i) g)).length < sizeLine := by
        rw [iv_len, bec_len]
        exact small_of (Nat.le_trans (List.length_take_le _ _) (by omega))
      refine ⟨rfl, _, rfl, _, rfl, b, _, rfl, .inl (s2.seq hB), _, _, rfl, rfl, _, rfl, ite2 (fun c => ?_) (fun c => ?_)⟩
      · have c := of_decide_eq_true c
        rw [iv_len] at c
        refine ⟨_, rfl, _, rfl, b, _, _, _, rfl, rfl, s2.seq hB, atI_nat (iv_at (getD_of (i := x) (by omega))), _, hD, few, nx _ rfl⟩
      · have c : ¬ ((x : Int) < ((iv g).length : Nat)) := fun z => c (decide_eq_true z)
        rw [iv_len] at c
        have e0 := getD_no (l := g) (i := x) (by omega)
        rw [e0] at nx
        exact ⟨_, hD, few, nx _ rfl⟩
    · rintro H1 ⟨s2, hD⟩
      rw [iv_len, List.take_length] at hD
      exact q H1 D s2 hD
end
abbrev C_what_becomes (P : Program) (w : World) (K : PySem.W.Frag) (mg : Str → Option Value) (base : Heap) (f : Addr) (fd : FuncData) : Prop := Cl P w K mg base "what_becomes" sBec ["arrows", "given"] 1 (spBec K) f fd
/-! ### keeps_arrows -/
abbrev sKeeps : Stmt := topS 7
theorem scK : FnScope ["given", "arrows", "table"] ["given", "arrows", "table"] (defScope sKeeps) := ⟨rfl, rfl, rfl, by decide +kernel, rfl, by decide +kernel, by decide +kernel⟩
def spKeeps (K : PySem.W.Frag) : Sp := fun vs H Q _ => ∃ (b a d : Addr) (f l : List Nat) (kvs : List (List Key × V)) (r : List (Nat × Nat)), vs = [.ref b, .ref a, .ref d] ∧ SqL K H b (iv f) ∧ SqL K H a (iv l) ∧
  l.length = 2 * (prs l).length ∧ l.length ≤ 60 ∧ H d = some (.dT kvs) ∧ Tab kvs r ∧ ∀ H' : Hp, Same H H' → Q (.bl (keepsR (prs l) r f)) H'
section
variable {P : Program} {w : World} {K : PySem.W.Frag} {mg : Str → Option Value} {base : Heap} {tP tN tS tM : Tok} {f1 f2 f3 f4 f5 f6 f7 f8 : Addr} {d1 d2 d3 d4 d5 d6 d7 d8 : FuncData}
theorem ok_keeps_arrows {f : Addr} {fd : FuncData} (F : Fun K "keeps_arrows" "keeps_arrows" sKeeps f fd) (_ : Txt mg) (cI : C_all_in_table P w K mg base f1 d1) (cB : C_what_becomes P w K mg base f2 d2) : FnOk P w K mg base CX0 2 f fd ["given", "arrows", "table"] (spKeeps K) := by
  refine F.ok scK (fun vs H Q E h => ?_) (fun cdv A outer s H vs Q E hr h => ?_)
  · obtain ⟨b, a, d, g, l, kvs, r, rfl, _⟩ := h
    rfl
  · obtain ⟨b, a, d, g, l, kvs, r, rfl, hB, hS, hev, hlen, hd, tab, q⟩ := h
    refine ⟨_, pss_one (ps_ret (pe_call cI.ok hr (by rfl) cI.g cI.F.kp cI.b .nil pass0 (pa_cons (pe_call cB.ok hr (by rfl) cB.g cB.F.kp cB.b .nil pass0 (pa_cons (pv 1) (pa_cons (pv 0) pa_nil))) (pa_cons (pv 2) pa_nil)))), ?_⟩
    refine ⟨_, rfl, _, rfl, a, b, l, g, rfl, hS, hB, hlen, fun H1 p s1 hp => ?_⟩
    refine ⟨_, rfl, p, d, becR l g, kvs, r, rfl, SqL.of hp, bec_ev g hev, (by rw [bec_len]; exact hlen), s1 _ _ hd, tab, fun H2 s2 => ?_⟩
    rw [bec_keeps]
    exact q H2 (s1.trans s2)
end
abbrev C_keeps_arrows (P : Program) (w : World) (K : PySem.W.Frag) (mg : Str → Option Value) (base : Heap) (f : Addr) (fd : FuncData) : Prop := Cl P w K mg base "keeps_arrows" sKeeps ["given", "arrows", "table"] 2 (spKeeps K) f fd
/-! ### gives_places -/
abbrev sPlaces : Stmt := topS 8
theorem scP : FnScope ["given", "n", "m"] ["given", "n", "m"] (defScope sPlaces) := ⟨rfl, rfl, rfl, by decide +kernel, rfl, by decide +kernel, by decide +kernel⟩
def spPlaces (K : PySem.W.Frag) : Sp := fun vs H Q _ => ∃ (b : Addr) (n m : Nat) (f : List Nat), vs = [.ref b, .int n, .int m] ∧ SqL K H b (iv f) ∧ 1 ≤ n ∧ Q (.bl (f.length == n && f.all (fun x => decide (x < m)))) H
section
variable {P : Program} {w : World} {K : PySem.W.Frag} {mg : Str → Option Value} {base : Heap} {tP tN tS tM : Tok} {f1 f2 f3 f4 f5 f6 f7 f8 : Addr} {d1 d2 d3 d4 d5 d6 d7 d8 : FuncData}
theorem ok_gives_places {f : Addr} {fd : FuncData} (F : Fun K "gives_places" "gives_places" sPlaces f fd) (T : Txt mg) : FnOk P w K mg base CX0 1 f fd ["given", "n", "m"] (spPlaces K) := by
  refine F.ok scP (fun vs H Q E h => ?_) (fun cdv A outer s H vs Q E hr h => ?_)
  · obtain ⟨b, n, m, g, rfl, _⟩ := h
    rfl
  · obtain ⟨b, n, m, g, rfl, hB, hn, q⟩ := h
    refine ⟨_, pss_one (ps_ret (pe_and (pe_cmpR op_eq (pe_callB call_len_seq (by rfl) T.len PySem.boot_len (pa_cons (pv 0) pa_nil)) (pv 1) (nomark _))
      (pe_one (pe_cmpR op_lt (pe_callB (cr_max rfl) (by rfl) T.max (by decide +kernel) (pa_cons (pv 0) pa_nil)) (pv 2) (nomark _))))), ?_⟩
    refine ⟨_, rfl, b, _, rfl, .inl hB, _, rfl, rfl, _, rfl, ite2 (fun c => ?_) (fun c => ?_)⟩
    · have c := V.int.inj (of_decide_eq_true c)
      rw [iv_len] at c
      have c : g.length = n := by omega
      refine ⟨_, rfl, b, zs g, rfl, (by rw [iv_zs]; exact hB), (by unfold zs; rw [List.length_map]; omega), fun x hx hle => ⟨_, rfl, _, _, rfl, rfl, ?_⟩⟩
      have e : (g.length == n && g.all (fun x => decide (x < m))) = decide (x < (m : Int)) := by
        rw [show (g.length == n) = true from beq_iff_eq.mpr c, Bool.true_and, Bool.eq_iff_iff, List.all_eq_true, decide_eq_true_iff]
        obtain ⟨x0, hx0, e0⟩ := List.mem_map.mp hx
        constructor
        · intro z
          have := of_decide_eq_true (z x0 hx0)
          omega
        · intro z y hy
          have := hle y (List.mem_map.mpr ⟨y, hy, rfl⟩)
          exact decide_eq_true (by omega)
      rw [e] at q
      exact q
    · have c : ¬ (V.int ((iv g).length : Nat) = V.int (n : Int)) := fun z => c (decide_eq_true z)
      rw [iv_len] at c
      have c : (g.length == n) = false := beq_eq_false_iff_ne.mpr fun z => c (by rw [z])
      rw [c] at q
      exact q
end
abbrev C_gives_places (P : Program) (w : World) (K : PySem.W.Frag) (mg : Str → Option Value) (base : Heap) (f : Addr) (fd : FuncData) : Prop := Cl P w K mg base "gives_places" sPlaces ["given", "n", "m"] 1 (spPlaces K) f fd
/-! ### maps_into -/
abbrev sInto : Stmt := topS 9
theorem scJ : FnScope ["given", "n", "m", "first", "second"] ["given", "n", "m", "first", "second"] (defScope sInto) := ⟨rfl, rfl, rfl, by decide +kernel, rfl, by decide +kernel, by decide +kernel⟩
def spInto (K : PySem.W.Frag) : Sp := fun vs H Q _ => ∃ (c : Addr) (n m : Nat) (a b : Addr) (f l k : List Nat), vs = [.ref c, .int n, .int m, .ref a, .ref b] ∧ SqL K H c (iv f) ∧ SqL K H a (iv l) ∧ SqL K H b (iv k) ∧
  1 ≤ n ∧ l.length = 2 * (prs l).length ∧ l.length ≤ 60 ∧ k.length = 2 * (prs k).length ∧ k.length ≤ 60 ∧ ∀ H' : Hp, Same H H' → Q (.bl (Ks547.keeps ⟨n, prs l⟩ ⟨m, prs k⟩ f)) H'
theorem keeps_split (n m : Nat) (l k f : List Nat) : Ks547.keeps ⟨n, prs l⟩ ⟨m, prs k⟩ f = ((f.length == n && f.all (fun x => decide (x < m))) && keepsR (prs l) (prs k) f) := rfl
section
variable {P : Program} {w : World} {K : PySem.W.Frag} {mg : Str → Option Value} {base : Heap} {tP tN tS tM : Tok} {f1 f2 f3 f4 f5 f6 f7 f8 : Addr} {d1 d2 d3 d4 d5 d6 d7 d8 : FuncData}
theorem ok_maps_into {f : Addr} {fd : FuncData} (F : Fun K "maps_into" "maps_into" sInto f fd) (_ : Txt mg) (cT : C_arrow_table P w K mg base f1 d1) (cK : C_keeps_arrows P w K mg base f2 d2) (cP : C_gives_places P w K mg base f3 d3) :
    FnOk P w K mg base CX0 3 f fd ["given", "n", "m", "first", "second"] (spInto K) := by
  refine F.ok scJ (fun vs H Q E h => ?_) (fun cdv A outer s H vs Q E hr h => ?_)
  · obtain ⟨c, n, m, a, b, g, l, k, rfl, _⟩ := h
    rfl
  · obtain ⟨c, n, m, a, b, g, l, k, rfl, hC, hA, hB, hn1, ev1, ln1, ev2, ln2, q⟩ := h
    have hr1 : Room 1 _ := hr.mono (by decide)
    refine ⟨_, pss_one (ps_ret (pe_and (pe_call cP.ok hr1 (by rfl) cP.g cP.F.kp cP.b .nil pass0 (pa_cons (pv 0) (pa_cons (pv 1) (pa_cons (pv 2) pa_nil))))
        (pe_one (pe_call cK.ok hr (by rfl) cK.g cK.F.kp cK.b .nil pass0 (pa_cons (pv 0) (pa_cons (pv 3) (pa_cons (pe_call cT.ok hr1 (by rfl) cT.g cT.F.kp cT.b .nil pass0 (pa_cons (pv 4) pa_nil)) pa_nil))))))), ?_⟩
    refine ⟨_, rfl, _, rfl, _, rfl, c, n, m, g, rfl, hC, hn1, _, rfl, ite2 (fun c1 => ?_) (fun c1 => ?_)⟩
    · refine ⟨_, rfl, _, rfl, _, rfl, b, k, rfl, hB, ev2, ln2, fun H1 d kvs s1 hd tab => ?_⟩
      refine ⟨c, a, d, g, l, kvs, prs k, rfl, s1.seq hC, s1.seq hA, ev1, ln1, hd, tab, fun H2 s2 => ?_⟩
      have q := q H2 (s1.trans s2)
      rw [keeps_split, c1, Bool.true_and] at q
      exact q
    · have q := q H (Same.refl H)
      rw [keeps_split, Bool.eq_false_iff.mpr c1, Bool.false_and] at q
      exact q
end
abbrev C_maps_into (P : Program) (w : World) (K : PySem.W.Frag) (mg : Str → Option Value) (base : Heap) (f : Addr) (fd : FuncData) : Prop := Cl P w K mg base "maps_into" sInto ["given", "n", "m", "first", "second"] 3 (spInto K) f fd
/-! ### gives_none_twice: how many apart ones a list has -/
theorem met_nodup (val : Nat → Int) : ∀ i, (PyProof.Rows.firstMet val i).length = i ↔ ((List.range i).map val).Nodup
  | 0 => by simp [PyProof.Rows.firstMet_zero]
  | i + 1 => by
    have ih := met_nodup val i
    have hle := PyProof.Rows.firstMet_length_le val i
    have han := PyProof.Rows.firstMet_any val i (val i)
    have e1 : PyProof.Rows.firstMet val (i + 1) = if (PyProof.Rows.firstMet val i).any (· == val i) then PyProof.Rows.firstMet val i else PyProof.Rows.firstMet val i ++ [val i] := by
      rw [PyProof.Rows.firstMet_succ]
      rfl
    have e2 : ((List.range (i + 1)).map val).Nodup ↔ ((List.range i).map val).Nodup ∧ val i ∉ (List.range i).map val := by
      rw [List.range_succ, List.map_append, List.nodup_append]
      simp only [List.map_cons, List.map_nil]
      constructor
      · rintro ⟨h1, _, h3⟩
        exact ⟨h1, fun m => h3 _ m _ List.mem_cons_self rfl⟩
      · rintro ⟨h1, h2⟩
        refine ⟨h1, by simp, fun a ha b hb e => ?_⟩
        rw [List.mem_singleton] at hb
        rw [e, hb] at ha
        exact h2 ha
    rw [e1, e2, ← ih, han]
    cases c : ((List.range i).map val).any (· == val i) with
    | true =>
      obtain ⟨y, hy, ey⟩ := List.any_eq_true.mp c
      have ey := eq_of_beq ey
      rw [ey] at hy
      constructor
      · intro z
        rw [if_pos rfl] at z
        omega
      · rintro ⟨_, z⟩
        exact (z hy).elim
    | false =>
      have no : val i ∉ (List.range i).map val := fun m => by
        have : ((List.range i).map val).any (· == val i) = true := List.any_eq_true.mpr ⟨_, m, beq_self_eq_true (val i)⟩
        rw [c] at this
        cases this
      rw [if_neg (by simp), List.length_append]
      constructor
      · intro z
        have z : (PyProof.Rows.firstMet val i).length + 1 = i + 1 := z
        exact ⟨by omega, no⟩
      · rintro ⟨z, _⟩
        rw [z]
        rfl
/-- how many a list has, each once -/
def apartN (l : List Nat) : Nat := (PyProof.Rows.firstMet (fun i => (zs l).getD i 0) l.length).length
theorem range_zs (l : List Nat) : (List.range l.length).map (fun i => (zs l).getD i 0) = zs l := by
  refine List.ext_getElem? fun i => ?_
  rw [List.getElem?_map]
  by_cases h : i < l.length
  · rw [List.getElem?_range h]
    have h2 : i < (zs l).length := by
      unfold zs
      rw [List.length_map]
      exact h
    rw [List.getElem?_eq_getElem h2]
    show some ((zs l).getD i 0) = some (zs l)[i]
    rw [List.getD_eq_getElem?_getD, List.getElem?_eq_getElem h2]
    rfl
  · have h2 : (zs l).length ≤ i := by
      unfold zs
      rw [List.length_map]
      omega
    rw [List.getElem?_eq_none h2, List.getElem?_eq_none (by rw [List.length_range]; omega)]
    rfl
theorem apart_met (l : List Nat) : apart l = decide (apartN l = l.length) := by
  rw [Bool.eq_iff_iff, apart_iff, decide_eq_true_iff]
  unfold apartN
  rw [met_nodup, range_zs]
  have e : (zs l).Nodup ↔ l.Pairwise fun a b => ((a : Nat) : Int) ≠ (b : Int) := List.pairwise_map
  rw [e]
  constructor
  · intro h
    exact List.Pairwise.imp (fun n z => n (by omega)) h
  · intro h
    exact List.Pairwise.imp (fun n z => n (by rw [z])) h
def tSetLen (K : PySem.W.Frag) (ta : TE) : TE := fun σ H Q => ta σ H fun x H1 => ∃ (l : Addr) (f : List Nat), x = .ref l ∧ SqL K H1 l (iv f) ∧ f.length ≤ 4000 ∧ Q (.int (apartN f : Nat)) H1
theorem pe_setLen {X : Cx} {a : Expr} {ta : TE} {p p2 q pos : Pos} (gl : Gl X "len") (ml : X.mg "len" = none) (gs : Gl X "set") (ms : X.mg "set" = none) (ha : PE X a ta) (hc : X.calm = true := by rfl)
    (na : starEach [a] X.env = (false, eval a X.env) :: starEach [] X.env := by rfl) :
    PE X (.Call (.Name "len" p) [.Call (.Name "set" p2) [a] [] q] [] pos) (tSetLen X.K ta) := by
  refine ⟨fun pins s σ H Q I h => Call_ (ld_blt I gl ml boot_len (PyProof.Rows.callWith_builtin1 (PyProof.Rows.args_cons (Call_ (ld_blt I gs ms boot_set ?_)) rfl) rfl rfl))⟩
  refine PyProof.Rows.callWith_type1 (PyProof.Rows.args_cons (thn (ha.run pins s σ H _ I h) ?_) na) na rfl
  rintro v s1 ⟨x, H1, I1, r1, l, f, rfl, hq, hl, q1⟩
  refine PyProof.Rows.args_nil ?_
  cases r1
  rw [← iv_zs] at hq
  obtain ⟨its, r, pl, hz⟩ := I1.list hq
  have hlen : its.toArray.size = f.length := by
    rw [List.size_toArray, ← r.length, List.length_map]
    exact List.length_map ..
  have hset : its.toArray.size + 1 < scanBound := by
    rw [hlen]
    unfold scanBound
    omega
  refine call_set_list (I1.ok.hd hc) pl.isList (by simpa using RZ.intsAre_vals r) hset fun h' tk hS hk => PyProof.Rows.args_nil ?_
  rw [hlen] at hS
  obtain ⟨o, es, ep, t, ho, hex, hd, _, _, _, hf, hn⟩ := hS
  have hn : es.size = apartN f := hn
  have hle : apartN f ≤ f.length := PyProof.Rows.firstMet_length_le _ _
  have I2 : Inv X pins σ H1 { s1 with heap := h', toks := tk } := I1.kept fun b ob eb => hk b ob (Heap.lt_size eb) eb
  exact call_len_set ho hex hd hf (by rw [hn]; omega) ⟨.int (apartN f : Nat), H1, I2.tok _, ⟨_, by rw [hn]⟩, q1⟩
abbrev sNone : Stmt := topS 10
theorem scO : FnScope ["given"] ["given"] (defScope sNone) := ⟨rfl, rfl, rfl, by decide +kernel, rfl, by decide +kernel, by decide +kernel⟩
def spNone (K : PySem.W.Frag) : Sp := fun vs H Q _ => ∃ (b : Addr) (f : List Nat), vs = [.ref b] ∧ SqL K H b (iv f) ∧ f.length ≤ 4000 ∧ Q (.bl (apart f)) H
section
variable {P : Program} {w : World} {K : PySem.W.Frag} {mg : Str → Option Value} {base : Heap} {tP tN tS tM : Tok} {f1 f2 f3 f4 f5 f6 f7 f8 : Addr} {d1 d2 d3 d4 d5 d6 d7 d8 : FuncData}
theorem ok_gives_none_twice {f : Addr} {fd : FuncData} (F : Fun K "gives_none_twice" "gives_none_twice" sNone f fd) (T : Txt mg) : FnOk P w K mg base CX0 1 f fd ["given"] (spNone K) := by
  refine F.ok scO (fun vs H Q E h => ?_) (fun cdv A outer s H vs Q E hr h => ?_)
  · obtain ⟨b, g, rfl, _⟩ := h
    rfl
  · obtain ⟨b, g, rfl, hB, hl, q⟩ := h
    refine ⟨_, pss_one (ps_ret (pe_cmpR op_eq (pe_setLen (by rfl) T.len (by rfl) T.set (pv 0)) (pe_callB call_len_seq (by rfl) T.len PySem.boot_len (pa_cons (pv 0) pa_nil)) (nomark _))), ?_⟩
    refine ⟨_, rfl, b, g, rfl, hB, hl, _, rfl, b, _, rfl, .inl hB, rfl, ?_⟩
    have e : decide (V.int (apartN g : Nat) = V.int ((iv g).length : Nat)) = apart g := by
      rw [iv_len, apart_met, Bool.eq_iff_iff, decide_eq_true_iff, decide_eq_true_iff]
      constructor
      · intro z
        have z := V.int.inj z
        omega
      · intro z
        rw [z]
    show Q (.bl (decide (V.int (apartN g : Nat) = V.int ((iv g).length : Nat)))) H
    rw [e]
    exact q
end
abbrev C_gives_none_twice (P : Program) (w : World) (K : PySem.W.Frag) (mg : Str → Option Value) (base : Heap) (f : Addr) (fd : FuncData) : Prop := Cl P w K mg base "gives_none_twice" sNone ["given"] 1 (spNone K) f fd
/-! ### gives_each -/
abbrev sEach : Stmt := topS 11
theorem scE : FnScope ["given", "m", "place"] ["given", "m"] (defScope sEach) := ⟨rfl, rfl, rfl, by decide +kernel, rfl, by decide +kernel, by decide +kernel⟩
def eachR (m : Nat) (f : List Nat) : Bool := (List.range m).all fun x => f.contains x
def spEach (K : PySem.W.Frag) : Sp := fun vs H Q _ => ∃ (b : Addr) (m : Nat) (f : List Nat), vs = [.ref b, .int m] ∧ SqL K H b (iv f) ∧ m ≤ 5 ∧ ∀ H' : Hp, Same H H' → Q (.bl (eachR m f)) H'
theorem flat_iv (f : List Nat) : (iv f).all flatV = true := by
  refine List.all_eq_true.mpr fun x hx => ?_
  obtain ⟨y, _, rfl⟩ := List.mem_map.mp hx
  rfl
theorem in_iv (f : List Nat) (x : Nat) : inV (.int (x : Int)) (iv f) = f.contains x := by
  unfold inV iv
  rw [List.any_map, Bool.eq_iff_iff, List.any_eq_true, List.contains_iff_mem]
  constructor
  · rintro ⟨y, hy, e⟩
    have e : (y : Int) = x := by simpa [eqV] using e
    have e : y = x := by omega
    rw [← e]
    exact hy
  · intro h
    exact ⟨x, h, by simp [eqV]⟩
section
variable {P : Program} {w : World} {K : PySem.W.Frag} {mg : Str → Option Value} {base : Heap} {tP tN tS tM : Tok} {f1 f2 f3 f4 f5 f6 f7 f8 : Addr} {d1 d2 d3 d4 d5 d6 d7 d8 : FuncData}
theorem ok_gives_each {f : Addr} {fd : FuncData} (F : Fun K "gives_each" "gives_each" sEach f fd) (T : Txt mg) : FnOk P w K mg base CX0 1 f fd ["given", "m"] (spEach K) := by
  refine F.ok scE (fun vs H Q E h => ?_) (fun cdv A outer s H vs Q E hr h => ?_)
  · obtain ⟨b, m, g, rfl, _⟩ := h
    rfl
  · obtain ⟨b, m, g, rfl, hB, hm, q⟩ := h
    refine ⟨_, pss_one (ps_ret (pe_callB (cr_all rfl) (by rfl) T.all (by decide +kernel) (pa_cons (pe_lc (own := [("place", 2)]) (g := gName 2) (by rfl) scE.nd (pi_range1 (by rfl) T.range (pa_cons (pv 1) pa_nil))
        (blkOk_by (own := [("place", 2)]) (N := ["given", "m", "place"]) (sc := defScope sEach) (by decide +kernel))
        (fun _ _ _ _ _ => pg_name (i := 2) scE.nd rfl (Or.inl rfl))
        (fun _ _ _ _ _ => pts_nil)
        (fun _ _ _ _ _ => pe_cmpR (r := rIn K false) op_in_seq (pv 2) (pv 0) rfl)) pa_nil))), ?_⟩
    refine ⟨_, rfl, (m : Int), rfl, by omega, by omega, fun D nD => ?_⟩
    have s1 : Same H (upd H D (.lst [])) := same_upd nD
    refine lc_range (lo := 0) (n := (m : Int).toNat) (fun i H' => Same H H' ∧ H' D = some (.lst (((List.range i).map fun x => g.contains x).map V.bl)))
      ⟨s1, upd_same⟩ ?_ ?_
    · rintro i H1 hi ⟨s2, hD⟩
      refine ⟨rfl, _, rfl, _, rfl, b, _, rfl, .inl (s2.seq hB), rfl, flat_iv g, _, hD, ?_, ?_⟩
      · rw [List.length_map, List.length_map, List.length_range]
        exact small_of (by omega)
      · refine ⟨fun c o e => ?_, ?_⟩
        · rw [upd_ne (ne_of_none e nD)]
          exact s2 _ _ e
        · rw [upd_same, List.range_succ, List.map_append, List.map_append]
          show some (HO.lst (_ ++ [V.bl (inV (.int (0 + (i : Int))) (iv g))])) = _
          rw [Int.zero_add, in_iv]
          rfl
    · rintro H1 ⟨s2, hD⟩
      refine ⟨D, _, rfl, SqL.of hD, ?_⟩
      have e : ((List.range (m : Int).toNat).map fun x => g.contains x).all id = eachR m g := by
        rw [List.all_map, Int.toNat_natCast]
        rfl
      rw [e]
      exact q H1 s2
end
abbrev C_gives_each (P : Program) (w : World) (K : PySem.W.Frag) (mg : Str → Option Value) (base : Heap) (f : Addr) (fd : FuncData) : Prop := Cl P w K mg base "gives_each" sEach ["given", "m"] 1 (spEach K) f fd
/-! ### hits_each_arrow -/
abbrev sHits : Stmt := topS 12
theorem scH : FnScope ["given", "first", "second"] ["given", "first", "second"] (defScope sHits) := ⟨rfl, rfl, rfl, by decide +kernel, rfl, by decide +kernel, by decide +kernel⟩
def spHits (K : PySem.W.Frag) : Sp := fun vs H Q _ => ∃ (b a c : Addr) (f l k : List Nat), vs = [.ref b, .ref a, .ref c] ∧ SqL K H b (iv f) ∧ SqL K H a (iv l) ∧ SqL K H c (iv k) ∧
  l.length = 2 * (prs l).length ∧ l.length ≤ 60 ∧ k.length = 2 * (prs k).length ∧ k.length ≤ 60 ∧ ∀ H' : Hp, Same H H' → Q (.bl (inR (prs k) (prs (becR l f)))) H'
section
variable {P : Program} {w : World} {K : PySem.W.Frag} {mg : Str → Option Value} {base : Heap} {tP tN tS tM : Tok} {f1 f2 f3 f4 f5 f6 f7 f8 : Addr} {d1 d2 d3 d4 d5 d6 d7 d8 : FuncData}
theorem ok_hits_each_arrow {f : Addr} {fd : FuncData} (F : Fun K "hits_each_arrow" "hits_each_arrow" sHits f fd) (_ : Txt mg) (cT : C_arrow_table P w K mg base f1 d1) (cI : C_all_in_table P w K mg base f2 d2) (cB : C_what_becomes P w K mg base f3 d3) : FnOk P w K mg base CX0 2 f fd ["given", "first", "second"] (spHits K) := by
  refine F.ok scH (fun vs H Q E h => ?_) (fun cdv A outer s H vs Q E hr h => ?_)
  · obtain ⟨b, a, c, g, l, k, rfl, _⟩ := h
    rfl
  · obtain ⟨b, a, c, g, l, k, rfl, hB, hA, hC, ev1, ln1, ev2, ln2, q⟩ := h
    refine ⟨_, pss_one (ps_ret (pe_call cI.ok hr (by rfl) cI.g cI.F.kp cI.b .nil pass0 (pa_cons (pv 2) (pa_cons (pe_call cT.ok hr (by rfl) cT.g cT.F.kp cT.b .nil pass0
      (pa_cons (pe_call cB.ok hr (by rfl) cB.g cB.F.kp cB.b .nil pass0 (pa_cons (pv 1) (pa_cons (pv 0) pa_nil))) pa_nil)) pa_nil)))), ?_⟩
    refine ⟨_, rfl, _, rfl, _, rfl, a, b, l, g, rfl, hA, hB, ln1, fun H1 p s1 hp => ?_⟩
    refine ⟨p, becR l g, rfl, SqL.of hp, bec_ev g ev1, (by rw [bec_len]; exact ln1), fun H2 d kvs s2 hd tab => ?_⟩
    exact ⟨c, d, k, kvs, _, rfl, s2.seq (s1.seq hC), ev2, ln2, hd, tab, fun H3 s3 => q H3 ((s1.trans s2).trans s3)⟩
end
abbrev C_hits_each_arrow (P : Program) (w : World) (K : PySem.W.Frag) (mg : Str → Option Value) (base : Heap) (f : Addr) (fd : FuncData) : Prop := Cl P w K mg base "hits_each_arrow" sHits ["given", "first", "second"] 2 (spHits K) f fd
/-! ### is_map -/
abbrev sIs : Stmt := topS 13
theorem scC : FnScope ["n", "m", "first", "second", "mapping"] ["n", "m", "first", "second", "mapping"] (defScope sIs) := ⟨rfl, rfl, rfl, by decide +kernel, rfl, by decide +kernel, by decide +kernel⟩
def spIs (K : PySem.W.Frag) : Sp := fun vs H Q _ => ∃ (n m : Nat) (a b c : Addr) (l k f : List Nat), vs = [.int n, .int m, .ref a, .ref b, .ref c] ∧ SqL K H a (iv l) ∧ SqL K H b (iv k) ∧ SqL K H c (iv f) ∧ l.length ≤ 60 ∧ k.length ≤ 60 ∧ f.length ≤ 8 ∧
  ∀ (H' : Hp) (p : Addr), H' p = some (.lst ((isR n m l k f).map V.int)) → Q (.ref p) H'
section
variable {P : Program} {w : World} {K : PySem.W.Frag} {mg : Str → Option Value} {base : Heap} {tP tN tS tM : Tok} {f1 f2 f3 f4 f5 f6 f7 f8 : Addr} {d1 d2 d3 d4 d5 d6 d7 d8 : FuncData}
theorem ok_is_map {f : Addr} {fd : FuncData} (F : Fun K "is_map" "is_map" sIs f fd) (T : Txt mg) (cG : C_is_graph P w K mg base f1 d1) (cJ : C_maps_into P w K mg base f2 d2)
    (cO : C_gives_none_twice P w K mg base f3 d3) (cE : C_gives_each P w K mg base f4 d4) (cH : C_hits_each_arrow P w K mg base f5 d5) (mgN : mg "NOT_A_GRAPH" = some (.int (-22) tN)) :
    FnOk P w K mg base CX0 4 f fd ["n", "m", "first", "second", "mapping"] (spIs K) := by
  refine F.ok scC (fun vs H Q E h => ?_) (fun cdv A outer s H vs Q E hr h => ?_)
  · obtain ⟨n, m, a, b, c, l, k, g, rfl, _⟩ := h
    rfl
  · obtain ⟨n, m, a, b, c, l, k, g, rfl, hA, hB, hC, hla, hlb, hlc, q⟩ := h
    have hr1 : Room 1 _ := hr.mono (by decide)
    have hr2 : Room 2 _ := hr.mono (by decide)
    refine ⟨_, pss_cons (ps_if (PW.pt (pw_or (pt_not (pt_val (pe_call cG.ok hr1 (by rfl) cG.g cG.F.kp cG.b .nil pass0 (pa_cons (pv 0) (pa_cons (pv 2) pa_nil)))))
        (pw_or1 (pt_not (pt_val (pe_call cG.ok hr1 (by rfl) cG.g cG.F.kp cG.b .nil pass0 (pa_cons (pv 1) (pa_cons (pv 3) pa_nil)))))))) (pss_one (ps_ret (pe_lst (pa_cons (pe_glob (v := .int (-22)) rfl mgN ⟨_, rfl⟩) pa_nil)))) pss_nil)
      (pss_one (ps_ret (pe_lst (pa_cons (pe_callTy call_int1 (by rfl) T.int (by decide +kernel) (pa_cons (pe_call cJ.ok hr (by rfl) cJ.g cJ.F.kp cJ.b .nil pass0 (pa_cons (pv 4) (pa_cons (pv 0) (pa_cons (pv 1) (pa_cons (pv 2) (pa_cons (pv 3) pa_nil)))))) pa_nil))
        (pa_cons (pe_callTy call_int1 (by rfl) T.int (by decide +kernel) (pa_cons (pe_call cO.ok hr1 (by rfl) cO.g cO.F.kp cO.b .nil pass0 (pa_cons (pv 4) pa_nil)) pa_nil))
        (pa_cons (pe_callTy call_int1 (by rfl) T.int (by decide +kernel) (pa_cons (pe_call cE.ok hr1 (by rfl) cE.g cE.F.kp cE.b .nil pass0 (pa_cons (pv 4) (pa_cons (pv 1) pa_nil))) pa_nil))
        (pa_cons (pe_callTy call_int1 (by rfl) T.int (by decide +kernel) (pa_cons (pe_call cH.ok hr2 (by rfl) cH.g cH.F.kp cH.b .nil pass0 (pa_cons (pv 4) (pa_cons (pv 2) (pa_cons (pv 3) pa_nil)))) pa_nil)) pa_nil))))))), ?_⟩
    refine ⟨_, rfl, _, rfl, n, a, l, rfl, hA, hla, _, rfl, ?_⟩
    cases g1 : (graphOf n l).isSome with
    | false =>
      refine iteT (iteT ⟨(by show 1 ≤ sizeLine; decide), fun p hp => ?_⟩)
      refine q _ p ?_
      rw [upd_same]
      unfold isR two
      rw [if_neg (by rw [g1]; simp)]
      rfl
    | true =>
      refine iteF ⟨_, rfl, _, rfl, m, b, k, rfl, hB, hlb, _, rfl, ?_⟩
      cases g2 : (graphOf m k).isSome with
      | false =>
        refine iteT ⟨(by show 1 ≤ sizeLine; decide), fun p hp => ?_⟩
        refine q _ p ?_
        rw [upd_same]
        unfold isR two
        rw [if_neg (by rw [g2]; simp)]
        rfl
      | true =>
        obtain ⟨x1, e1⟩ := Option.isSome_iff_exists.mp g1
        obtain ⟨x2, e2⟩ := Option.isSome_iff_exists.mp g2
        obtain ⟨hn1, hn5, _, hev1, hin1⟩ := graph_some e1
        obtain ⟨hm1, hm5, _, hev2, hin2⟩ := graph_some e2
        refine iteF ⟨_, rfl, _, rfl, _, rfl, _, rfl, _, rfl, c, n, m, a, b, g, l, k, rfl, hC, hA, hB, hn1, hev1, hla, hev2, hlb, fun H1 s1 => .inr ⟨_, rfl, ?_⟩⟩
        refine ⟨_, rfl, c, g, rfl, s1.seq hC, by omega, .inr ⟨_, rfl, ?_⟩⟩
        refine ⟨_, rfl, _, rfl, c, m, g, rfl, s1.seq hC, hm5, fun H2 s2 => .inr ⟨_, rfl, ?_⟩⟩
        have t := s1.trans s2
        refine ⟨_, rfl, _, rfl, _, rfl, c, a, b, g, l, k, rfl, t.seq hC, t.seq hA, t.seq hB, hev1, hla, hev2, hlb, fun H3 s3 => .inr ⟨_, rfl, ?_⟩⟩
        refine ⟨(by show 4 ≤ sizeLine; decide), fun p hp => q _ p ?_⟩
        rw [upd_same, bec_hits n m]
        unfold isR two
        rw [if_pos (c := (graphOf n l).isSome = true ∧ (graphOf m k).isSome = true) ⟨g1, g2⟩]
        rfl
end
/-! ### what the top has written, and the row's head -/
theorem all_mk {P : Program} {w : World} {K : PySem.W.Frag} {h : Heap} {mg : Str → Option Value} {fa f1 f2 f3 f4 f5 f6 f7 f8 f9 f10 f11 : Addr} (X : K.In h) (G : h.Ns mainGlobals mg) (hfa : mg "is_map" = some (.ref fa))
    {od1 an1 od2 an2 od3 an3 od4 an4 od5 an5 od6 an6 od7 an7 od8 an8 od9 an9 od10 an10 od11 an11 : Option Addr} {sl1 sl2 sl3 sl4 sl5 sl6 sl7 sl8 sl9 sl10 sl11 : Array (Option Value)} {oc1 kV1 dc1 pm1 cd1 ct1 oc2 kV2 dc2 pm2 cd2 ct2 oc3 kV3 dc3 pm3 cd3 ct3 oc4 kV4 dc4 pm4 cd4 ct4 oc5 kV5 dc5 pm5 cd5 ct5 oc6 kV6 dc6 pm6 cd6 ct6 oc7 kV7 dc7 pm7 cd7 ct7 oc8 kV8 dc8 pm8 cd8 ct8 oc9 kV9 dc9 pm9 cd9 ct9 oc10 kV10 dc10 pm10 cd10 ct10 oc11 kV11 dc11 pm11 cd11 ct11 : Value} {tN tP : Tok}
    (a1 : PySem.W.nsIn K mainGlobals "is_graph" = some (some (.ref f1))) (l1 : K.lookup f1 = some ⟨oc1, od1, .func (PySem.W.fnOf "is_graph" "is_graph" (defArgs sGraph) (defBody sGraph) (defScope sGraph) .none kV1 dc1 pm1 an1 cd1 ct1), sl1⟩) (c1 : PySem.W.codeIn K cd1 "is_graph" = true) (k1 : PySem.W.keepIn K (.ref f1) = true)
    (a2 : PySem.W.nsIn K mainGlobals "arrow_table" = some (some (.ref f2))) (l2 : K.lookup f2 = some ⟨oc2, od2, .func (PySem.W.fnOf "arrow_table" "arrow_table" (defArgs sTable) (defBody sTable) (defScope sTable) .none kV2 dc2 pm2 an2 cd2 ct2), sl2⟩) (c2 : PySem.W.codeIn K cd2 "arrow_table" = true) (k2 : PySem.W.keepIn K (.ref f2) = true)
    (a3 : PySem.W.nsIn K mainGlobals "all_in_table" = some (some (.ref f3))) (l3 : K.lookup f3 = some ⟨oc3, od3, .func (PySem.W.fnOf "all_in_table" "all_in_table" (defArgs sAllIn) (defBody sAllIn) (defScope sAllIn) .none kV3 dc3 pm3 an3 cd3 ct3), sl3⟩) (c3 : PySem.W.codeIn K cd3 "all_in_table" = true) (k3 : PySem.W.keepIn K (.ref f3) = true)
    (a4 : PySem.W.nsIn K mainGlobals "what_becomes" = some (some (.ref f4))) (l4 : K.lookup f4 = some ⟨oc4, od4, .func (PySem.W.fnOf "what_becomes" "what_becomes" (defArgs sBec) (defBody sBec) (defScope sBec) .none kV4 dc4 pm4 an4 cd4 ct4), sl4⟩) (c4 : PySem.W.codeIn K cd4 "what_becomes" = true) (k4 : PySem.W.keepIn K (.ref f4) = true)
    (a5 : PySem.W.nsIn K mainGlobals "keeps_arrows" = some (some (.ref f5))) (l5 : K.lookup f5 = some ⟨oc5, od5, .func (PySem.W.fnOf "keeps_arrows" "keeps_arrows" (defArgs sKeeps) (defBody sKeeps) (defScope sKeeps) .none kV5 dc5 pm5 an5 cd5 ct5), sl5⟩) (c5 : PySem.W.codeIn K cd5 "keeps_arrows" = true) (k5 : PySem.W.keepIn K (.ref f5) = true)
    (a6 : PySem.W.nsIn K mainGlobals "gives_places" = some (some (.ref f6))) (l6 : K.lookup f6 = some ⟨oc6, od6, .func (PySem.W.fnOf "gives_places" "gives_places" (defArgs sPlaces) (defBody sPlaces) (defScope sPlaces) .none kV6 dc6 pm6 an6 cd6 ct6), sl6⟩) (c6 : PySem.W.codeIn K cd6 "gives_places" = true) (k6 : PySem.W.keepIn K (.ref f6) = true)
    (a7 : PySem.W.nsIn K mainGlobals "maps_into" = some (some (.ref f7))) (l7 : K.lookup f7 = some ⟨oc7, od7, .func (PySem.W.fnOf "maps_into" "maps_into" (defArgs sInto) (defBody sInto) (defScope sInto) .none kV7 dc7 pm7 an7 cd7 ct7), sl7⟩) (c7 : PySem.W.codeIn K cd7 "maps_into" = true) (k7 : PySem.W.keepIn K (.ref f7) = true)
    (a8 : PySem.W.nsIn K mainGlobals "gives_none_twice" = some (some (.ref f8))) (l8 : K.lookup f8 = some ⟨oc8, od8, .func (PySem.W.fnOf "gives_none_twice" "gives_none_twice" (defArgs sNone) (defBody sNone) (defScope sNone) .none kV8 dc8 pm8 an8 cd8 ct8), sl8⟩) (c8 : PySem.W.codeIn K cd8 "gives_none_twice" = true) (k8 : PySem.W.keepIn K (.ref f8) = true)
    (a9 : PySem.W.nsIn K mainGlobals "gives_each" = some (some (.ref f9))) (l9 : K.lookup f9 = some ⟨oc9, od9, .func (PySem.W.fnOf "gives_each" "gives_each" (defArgs sEach) (defBody sEach) (defScope sEach) .none kV9 dc9 pm9 an9 cd9 ct9), sl9⟩) (c9 : PySem.W.codeIn K cd9 "gives_each" = true) (k9 : PySem.W.keepIn K (.ref f9) = true)
    (a10 : PySem.W.nsIn K mainGlobals "hits_each_arrow" = some (some (.ref f10))) (l10 : K.lookup f10 = some ⟨oc10, od10, .func (PySem.W.fnOf "hits_each_arrow" "hits_each_arrow" (defArgs sHits) (defBody sHits) (defScope sHits) .none kV10 dc10 pm10 an10 cd10 ct10), sl10⟩) (c10 : PySem.W.codeIn K cd10 "hits_each_arrow" = true) (k10 : PySem.W.keepIn K (.ref f10) = true)
    (a11 : PySem.W.nsIn K mainGlobals "is_map" = some (some (.ref f11))) (l11 : K.lookup f11 = some ⟨oc11, od11, .func (PySem.W.fnOf "is_map" "is_map" (defArgs sIs) (defBody sIs) (defScope sIs) .none kV11 dc11 pm11 an11 cd11 ct11), sl11⟩) (c11 : PySem.W.codeIn K cd11 "is_map" = true) (k11 : PySem.W.keepIn K (.ref f11) = true)
    (z_len : PySem.W.nsIn K mainGlobals "len" = some none) (z_range : PySem.W.nsIn K mainGlobals "range" = some none) (z_set : PySem.W.nsIn K mainGlobals "set" = some none) (z_max : PySem.W.nsIn K mainGlobals "max" = some none) (z_all : PySem.W.nsIn K mainGlobals "all" = some none) (z_int : PySem.W.nsIn K mainGlobals "int" = some none) (y_tN : PySem.W.nsIn K mainGlobals "NOT_A_GRAPH" = some (some (.int (-22) tN))) (y_tP : PySem.W.nsIn K mainGlobals "MOST_PLACES" = some (some (.int 5 tP))) :
    ∃ fd : FuncData, (∀ (s : Shared) (us : List Value), us.length = (["n", "m", "first", "second", "mapping"] : List Str).length → BindsTo s fd ⟨us, []⟩ ((["n", "m", "first", "second", "mapping"] : List Str).zip us)) ∧ ∀ base : Heap, K.In base → base.Ns mainGlobals mg → FnOk P w K mg base CX0 4 fa fd ["n", "m", "first", "second", "mapping"] (spIs K) := by
  have e := hfa.symm.trans (PySem.W.mg_of X G a11)
  cases e
  have T : Txt mg := ⟨PySem.W.mg_none_of X G z_len, PySem.W.mg_none_of X G z_range, PySem.W.mg_none_of X G z_set, PySem.W.mg_none_of X G z_max, PySem.W.mg_none_of X G z_all, PySem.W.mg_none_of X G z_int⟩
  have F1 := fun_mk (st := sGraph) l1 c1 k1
  have F2 := fun_mk (st := sTable) l2 c2 k2
  have F3 := fun_mk (st := sAllIn) l3 c3 k3
  have F4 := fun_mk (st := sBec) l4 c4 k4
  have F5 := fun_mk (st := sKeeps) l5 c5 k5
  have F6 := fun_mk (st := sPlaces) l6 c6 k6
  have F7 := fun_mk (st := sInto) l7 c7 k7
  have F8 := fun_mk (st := sNone) l8 c8 k8
  have F9 := fun_mk (st := sEach) l9 c9 k9
  have F10 := fun_mk (st := sHits) l10 c10 k10
  have F11 := fun_mk (st := sIs) l11 c11 k11
  have b1 := F1.binds (ps := ["places", "arrows"]) fun _ _ _ _ _ _ us hl => match us, hl with | [_, _], _ => rfl
  have b2 := F2.binds (ps := ["arrows"]) fun _ _ _ _ _ _ us hl => match us, hl with | [_], _ => rfl
  have b3 := F3.binds (ps := ["arrows", "table"]) fun _ _ _ _ _ _ us hl => match us, hl with | [_, _], _ => rfl
  have b4 := F4.binds (ps := ["arrows", "given"]) fun _ _ _ _ _ _ us hl => match us, hl with | [_, _], _ => rfl
  have b5 := F5.binds (ps := ["given", "arrows", "table"]) fun _ _ _ _ _ _ us hl => match us, hl with | [_, _, _], _ => rfl
  have b6 := F6.binds (ps := ["given", "n", "m"]) fun _ _ _ _ _ _ us hl => match us, hl with | [_, _, _], _ => rfl
  have b7 := F7.binds (ps := ["given", "n", "m", "first", "second"]) fun _ _ _ _ _ _ us hl => match us, hl with | [_, _, _, _, _], _ => rfl
  have b8 := F8.binds (ps := ["given"]) fun _ _ _ _ _ _ us hl => match us, hl with | [_], _ => rfl
  have b9 := F9.binds (ps := ["given", "m"]) fun _ _ _ _ _ _ us hl => match us, hl with | [_, _], _ => rfl
  have b10 := F10.binds (ps := ["given", "first", "second"]) fun _ _ _ _ _ _ us hl => match us, hl with | [_, _, _], _ => rfl
  refine ⟨PySem.W.fnOf "is_map" "is_map" (defArgs sIs) (defBody sIs) (defScope sIs) .none kV11 dc11 pm11 an11 cd11 ct11, fun s us hu => match us, hu with | [_, _, _, _, _], _ => .of_eq rfl, fun base _ _ => ?_⟩
  have C1 : C_is_graph P w K mg base f1 _ := ⟨F1, b1, PySem.W.mg_of X G a1, ok_is_graph F1 T (PySem.W.mg_of X G y_tP)⟩
  have C2 : C_arrow_table P w K mg base f2 _ := ⟨F2, b2, PySem.W.mg_of X G a2, ok_arrow_table F2 T⟩
  have C3 : C_all_in_table P w K mg base f3 _ := ⟨F3, b3, PySem.W.mg_of X G a3, ok_all_in_table F3 T⟩
  have C4 : C_what_becomes P w K mg base f4 _ := ⟨F4, b4, PySem.W.mg_of X G a4, ok_what_becomes F4 T⟩
  have C5 : C_keeps_arrows P w K mg base f5 _ := ⟨F5, b5, PySem.W.mg_of X G a5, ok_keeps_arrows F5 T C3 C4⟩
  have C6 : C_gives_places P w K mg base f6 _ := ⟨F6, b6, PySem.W.mg_of X G a6, ok_gives_places F6 T⟩
  have C7 : C_maps_into P w K mg base f7 _ := ⟨F7, b7, PySem.W.mg_of X G a7, ok_maps_into F7 T C2 C5 C6⟩
  have C8 : C_gives_none_twice P w K mg base f8 _ := ⟨F8, b8, PySem.W.mg_of X G a8, ok_gives_none_twice F8 T⟩
  have C9 : C_gives_each P w K mg base f9 _ := ⟨F9, b9, PySem.W.mg_of X G a9, ok_gives_each F9 T⟩
  have C10 : C_hits_each_arrow P w K mg base f10 _ := ⟨F10, b10, PySem.W.mg_of X G a10, ok_hits_each_arrow F10 T C2 C3 C4⟩
  exact ok_is_map F11 T C1 C7 C8 C9 C10 (PySem.W.mg_of X G y_tN)
end Am
open PySem PySem.W PyProof.Rows
set_option maxRecDepth 100000 in
set_option maxHeartbeats 0 in
theorem PySem.Challenge.cw_arrowmaps_s03_is_map_holds : PySem.Challenge.rw_arrowmaps_s03_is_map.Holds := by
  w_on; k_headS; (case hw => exact ⟨[.int 0, .int 0, .list [], .list [], .list []], by decide +kernel, by decide +kernel⟩)
  k_fillS
  refine L2.walk_specK (r := PySem.Challenge.rw_arrowmaps_s03_is_map) (k := 4) (CX := L2.CX0) (ps := ["n", "m", "first", "second", "mapping"]) (sp := Am.spIs) (by decide +kernel) rfl rfl ⟨rfl, by decide, by decide⟩ (fun w h Y => PySem.W.kIn_of Y) ?F ?S (fun _ _ _ _ z => z)
  case F =>
    intro w mg fa h Y KX G hmg
    refine' Am.all_mk KX G hmg ?a1 ?l1 ?c1 ?k1 ?a2 ?l2 ?c2 ?k2 ?a3 ?l3 ?c3 ?k3 ?a4 ?l4 ?c4 ?k4 ?a5 ?l5 ?c5 ?k5 ?a6 ?l6 ?c6 ?k6 ?a7 ?l7 ?c7 ?k7 ?a8 ?l8 ?c8 ?k8 ?a9 ?l9 ?c9 ?k9 ?a10 ?l10 ?c10 ?k10 ?a11 ?l11 ?c11 ?k11 ?z_len ?z_range ?z_set ?z_max ?z_all ?z_int ?y_tN ?y_tP
    (case a1 => k_is); (case l1 => k_is); (case c1 => k_is); (case k1 => k_is); (case a2 => k_is); (case l2 => k_is); (case c2 => k_is); (case k2 => k_is); (case a3 => k_is); (case l3 => k_is); (case c3 => k_is); (case k3 => k_is); (case a4 => k_is); (case l4 => k_is); (case c4 => k_is); (case k4 => k_is); (case a5 => k_is); (case l5 => k_is); (case c5 => k_is); (case k5 => k_is); (case a6 => k_is); (case l6 => k_is); (case c6 => k_is); (case k6 => k_is); (case a7 => k_is); (case l7 => k_is); (case c7 => k_is); (case k7 => k_is); (case a8 => k_is); (case l8 => k_is); (case c8 => k_is); (case k8 => k_is); (case a9 => k_is); (case l9 => k_is); (case c9 => k_is); (case k9 => k_is); (case a10 => k_is); (case l10 => k_is); (case c10 => k_is); (case k10 => k_is); (case a11 => k_is); (case l11 => k_is); (case c11 => k_is); (case k11 => k_is); (case z_len => k_is); (case z_range => k_is); (case z_set => k_is); (case z_max => k_is); (case z_all => k_is); (case z_int => k_is); (case y_tN => k_is); (case y_tP => k_is)
  case S =>
    intro K H xs a hO hwi hask hx
    obtain ⟨x0, x1, x2, x3, x4, u⟩ := a
    have q : (Codec.inInt 0 4294967295 x0 && (Codec.inInt 0 4294967295 x1 && ((Codec.inLen 0 60 x2 && x2.all (Codec.inInt 0 4294967295)) && ((Codec.inLen 0 60 x3 && x3.all (Codec.inInt 0 4294967295)) && ((Codec.inLen 0 8 x4 && x4.all (Codec.inInt 0 4294967295)) && true))))) = true := hwi
    simp only [Bool.and_eq_true, List.all_eq_true] at q
    obtain ⟨q0, q1, ⟨q2, r2⟩, ⟨q3, r3⟩, ⟨q4, r4⟩, _⟩ := q
    have q0 := (Codec.inInt_iff.mp q0).1
    obtain ⟨x0, rfl⟩ := Int.eq_ofNat_of_zero_le q0
    have q1 := (Codec.inInt_iff.mp q1).1
    obtain ⟨x1, rfl⟩ := Int.eq_ofNat_of_zero_le q1
    have q2 := (Codec.inNat_iff.mp q2).2
    obtain ⟨x2, rfl⟩ := Am.ints_of (l := x2) fun x hx => (Codec.inInt_iff.mp (r2 x hx)).1
    have q2 : x2.length ≤ 60 := by
      unfold Am.zs at q2
      rw [List.length_map] at q2
      exact q2
    have q3 := (Codec.inNat_iff.mp q3).2
    obtain ⟨x3, rfl⟩ := Am.ints_of (l := x3) fun x hx => (Codec.inInt_iff.mp (r3 x hx)).1
    have q3 : x3.length ≤ 60 := by
      unfold Am.zs at q3
      rw [List.length_map] at q3
      exact q3
    have q4 := (Codec.inNat_iff.mp q4).2
    obtain ⟨x4, rfl⟩ := Am.ints_of (l := x4) fun x hx => (Codec.inInt_iff.mp (r4 x hx)).1
    have q4 : x4.length ≤ 8 := by
      unfold Am.zs at q4
      rw [List.length_map] at q4
      exact q4
    cases hx with
    | cons h0 hx =>
    cases hx with
    | cons h1 hx =>
    cases hx with
    | cons h2 hx =>
    cases hx with
    | cons h3 hx =>
    cases hx with
    | cons h4 hx =>
    cases hx
    cases h0
    cases h1
    cases h2 with
    | lst s2 e2 =>
    have e2 := L2.ints_dw (Am.zs x2) _ e2
    subst e2
    rw [Am.iv_zs] at s2
    cases h3 with
    | lst s3 e3 =>
    have e3 := L2.ints_dw (Am.zs x3) _ e3
    subst e3
    rw [Am.iv_zs] at s3
    cases h4 with
    | lst s4 e4 =>
    have e4 := L2.ints_dw (Am.zs x4) _ e4
    subst e4
    rw [Am.iv_zs] at s4
    refine ⟨x0, x1, _, _, _, x2, x3, x4, rfl, s2, s3, s4, q2, q3, q4, fun H' p hp => ?_⟩
    rw [← Am.is_eq] at hp
    exact .lst (L2.SqL.of hp) (L2.dw_ints _)
#print axioms PySem.Challenge.cw_arrowmaps_s03_is_map_holds
