import PyProof.Rows.All
import Wide.All
import OpenK.AllK
import Wide.FinOn
import Open.SpecLaws
import KE.OsHead
import KE.OsGo
import KE.KSortKey
import HandS.ForSpec
import HandS.Comp
import HandS.Nested
import HandS.SortOrd
import HandS.SortKw
import HandS.EndTab
import PySem.Challenge.RW_breadstreet_s01_answers
import HandS.Iter
import HandS.Zip
import HandS.WideBits
import HandS.Conv
import KE.KNestM
section
set_option autoImplicit false
namespace Br
open Sr100
/-! ### the order of the shops by distance -/
def dis (s : Street) (i : Nat) : Nat := (shopAt s i).position.natAbs
/-- i stands ahead of j: nearer, or as near and of a smaller number -/
def Ahead (s : Street) (i j : Nat) : Prop := dis s i < dis s j ∨ (dis s i = dis s j ∧ i < j)
theorem ins_perm (s : Street) (i : Nat) : ∀ l : List Nat, (insertByDistance s i l).Perm (i :: l)
  | [] => List.Perm.refl _
  | j :: r => by
    unfold insertByDistance
    split
    · exact List.Perm.refl _
    · exact ((ins_perm s i r).cons j).trans (List.Perm.swap i j r)
theorem ins_pair (s : Street) (i : Nat) : ∀ l : List Nat, l.Pairwise (Ahead s) → (∀ j ∈ l, j < i) → (insertByDistance s i l).Pairwise (Ahead s)
  | [], _, _ => List.pairwise_singleton _ _
  | j :: r, h, hl => by
    obtain ⟨h1, h2⟩ := List.pairwise_cons.mp h
    unfold insertByDistance
    split
    · rename_i q
      refine List.pairwise_cons.mpr ⟨fun k hk => ?_, h⟩
      rcases List.mem_cons.mp hk with rfl | hk
      · exact .inl q
      · rcases h1 k hk with z | ⟨z, _⟩
        · exact .inl (Nat.lt_trans q z)
        · exact .inl (by unfold dis at *; omega)
    · rename_i q
      refine List.pairwise_cons.mpr ⟨fun k hk => ?_, ins_pair s i r h2 fun k hk => hl k (List.mem_cons_of_mem _ hk)⟩
      rcases List.mem_cons.mp ((ins_perm s i r).mem_iff.mp hk) with rfl | hk
      · have := hl j (List.mem_cons_self ..)
        unfold Ahead dis
        omega
      · exact h1 k hk
theorem fold_sort (s : Street) : ∀ (xs acc : List Nat), xs.Pairwise (· < ·) → acc.Pairwise (Ahead s) → (∀ j ∈ acc, ∀ i ∈ xs, j < i) →
    (xs.foldl (fun sorted i => insertByDistance s i sorted) acc).Perm (acc ++ xs) ∧ (xs.foldl (fun sorted i => insertByDistance s i sorted) acc).Pairwise (Ahead s)
  | [], acc, _, h, _ => by simpa using h
  | x :: xs, acc, hx, h, hl => by
    obtain ⟨h1, h2⟩ := List.pairwise_cons.mp hx
    have ih := fold_sort s xs (insertByDistance s x acc) h2 (ins_pair s x acc h fun j hj => hl j hj x (List.mem_cons_self ..)) (fun j hj i hi => by
      rcases List.mem_cons.mp ((ins_perm s x acc).mem_iff.mp hj) with rfl | hj
      · exact h1 i hi
      · exact hl j hj i (List.mem_cons_of_mem _ hi))
    refine ⟨ih.1.trans ?_, ih.2⟩
    refine ((ins_perm s x acc).append_right xs).trans ?_
    exact (List.perm_middle (a := x) (l₁ := acc) (l₂ := xs)).symm
theorem sort_perm (s : Street) (xs : List Nat) (h : xs.Pairwise (· < ·)) : (sortByDistance s xs).Perm xs := by
  have := (fold_sort s xs [] h List.Pairwise.nil (by simp)).1
  simpa [sortByDistance] using this
theorem sort_pair (s : Street) (xs : List Nat) (h : xs.Pairwise (· < ·)) : (sortByDistance s xs).Pairwise (Ahead s) :=
  (fold_sort s xs [] h List.Pairwise.nil (by simp)).2
/-- a list in the order by distance is told by its members -/
theorem sort_only (s : Street) (xs ys : List Nat) (h : xs.Pairwise (· < ·)) (hp : ys.Perm xs) (ho : ys.Pairwise (fun i j => ¬ Ahead s j i)) : ys = sortByDistance s xs := by
  have p2 : ys.Perm (sortByDistance s xs) := hp.trans (sort_perm s xs h).symm
  refine List.Perm.eq_of_pairwise (le := fun i j => ¬ Ahead s j i) ?_ ho ((sort_pair s xs h).imp ?_) p2
  · intro a b _ _ h1 h2
    unfold Ahead at h1 h2
    omega
  · intro a b h1 h2
    unfold Ahead at h1 h2
    omega
/-! ### the routes, layer by layer -/
abbrev Begun := Nat × Nat × List Nat
def next1 (L R : List Nat) (t : Begun) : List Begun :=
  (if t.1 < L.length then [(t.1 + 1, t.2.1, t.2.2 ++ [L.getD t.1 0])] else []) ++ (if t.2.1 < R.length then [(t.1, t.2.1 + 1, t.2.2 ++ [R.getD t.2.1 0])] else [])
def layer (L R : List Nat) (b : List Begun) : List Begun := b.flatMap (next1 L R)
def layers (L R : List Nat) : Nat → List Begun → List Begun
  | 0, b => b
  | k + 1, b => layers L R k (layer L R b)
theorem layers_succ (L R : List Nat) : ∀ (k : Nat) (b : List Begun), layers L R (k + 1) b = layer L R (layers L R k b)
  | 0, _ => rfl
  | k + 1, b => by
    show layers L R (k + 1) (layer L R b) = _
    rw [layers_succ L R k]
    rfl
theorem drop_of_lt (L : List Nat) (i : Nat) (h : i < L.length) : L.drop i = L.getD i 0 :: L.drop (i + 1) := by
  rw [List.drop_eq_getElem_cons h, List.getD_eq_getElem?_getD, List.getElem?_eq_getElem h]
  rfl
theorem mergings_succ (k : Nat) (L R : List Nat) : mergings (k + 1) L R = (match L with
      | [] => []
      | i :: rest => (mergings k rest R).map fun route => i :: route) ++
    match R with
      | [] => []
      | i :: rest => (mergings k L rest).map fun route => i :: route := by
  cases L <;> cases R <;> rfl
theorem next1_merge (L R : List Nat) (k : Nat) (t : Begun) :
    (next1 L R t).flatMap (fun t => (mergings k (L.drop t.1) (R.drop t.2.1)).map (t.2.2 ++ ·)) = (mergings (k + 1) (L.drop t.1) (R.drop t.2.1)).map (t.2.2 ++ ·) := by
  obtain ⟨l, r, route⟩ := t
  unfold next1
  rw [mergings_succ, List.flatMap_append, List.map_append]
  congr 1
  · dsimp only
    split
    · rename_i h
      rw [drop_of_lt L l h]
      simp [List.map_map, Function.comp_def]
    · rename_i h
      rw [List.drop_eq_nil_of_le (by omega)]
      rfl
  · dsimp only
    split
    · rename_i h
      rw [drop_of_lt R r h]
      simp [List.map_map, Function.comp_def]
    · rename_i h
      rw [List.drop_eq_nil_of_le (by omega)]
      rfl
theorem layers_merge (L R : List Nat) : ∀ (k : Nat) (b : List Begun), (layers L R k b).map (·.2.2) = b.flatMap (fun t => (mergings k (L.drop t.1) (R.drop t.2.1)).map (t.2.2 ++ ·))
  | 0, b => by
    show b.map (·.2.2) = _
    induction b with
    | nil => rfl
    | cons t b ih =>
      rw [List.map_cons, ih, List.flatMap_cons]
      simp [mergings]
  | k + 1, b => by
    show (layers L R k (layer L R b)).map (·.2.2) = _
    rw [layers_merge L R k]
    unfold layer
    rw [List.flatMap_assoc]
    congr 1
    funext t
    exact next1_merge L R k t
theorem layers_all (L R : List Nat) (k : Nat) : (layers L R k [(0, 0, [])]).map (·.2.2) = mergings k L R := by
  rw [layers_merge]
  simp
/-! ### the best of the routes -/
def better (s : Street) (b : Option (Nat × List Nat)) (route : List Nat) : Option (Nat × List Nat) :=
  if isOnTime s route = true then (match b with
    | none => some (finishTime s route, route)
    | some p => if finishTime s route < p.1 then some (finishTime s route, route) else b) else b
def told (s : Street) (o : Option (List Nat)) : Option (Nat × List Nat) := o.map fun r => (finishTime s r, r)
theorem better_fold (s : Street) : ∀ (rs : List (List Nat)) (o : Option (List Nat)), rs.foldl (better s) (told s o) = told s ((rs.filter (isOnTime s)).foldl (fun (best : Option (List Nat)) route => match best with
    | none => some route
    | some b => if finishTime s route < finishTime s b then some route else some b) o)
  | [], _ => rfl
  | r :: rs, o => by
    rw [List.foldl_cons, List.filter_cons]
    by_cases h : isOnTime s r = true
    · rw [if_pos h, List.foldl_cons]
      rw [← better_fold s rs]
      congr 1
      unfold better told
      rw [if_pos h]
      cases o with
      | none => rfl
      | some b =>
        dsimp only [Option.map]
        split <;> rfl
    · rw [if_neg h]
      rw [← better_fold s rs]
      congr 1
      unfold better
      rw [if_neg h]
theorem best_is (s : Street) (xs : List Nat) : (sweepingRoutes s xs).foldl (better s) none = told s (bestRoute s xs) := better_fold s (sweepingRoutes s xs) none
end Br
end
section
set_option autoImplicit false
set_option linter.all false
namespace Br
open Sr100
/-! ### times when the van leaves at another time -/
def at0 (st : Street) (t : Nat) : Street := { st with departure := t }
theorem arr_from_at (st : Street) (d : Nat) : ∀ (r : List Nat) (p : Int) (t : Nat), arrivalTimesFrom (at0 st d) r p t = arrivalTimesFrom st r p t
  | [], _, _ => rfl
  | i :: r, p, t => congrArg (List.cons _) (arr_from_at st d r _ _)
theorem arr_shift (st : Street) (d : Nat) : ∀ (r : List Nat) (p : Int) (t : Nat), arrivalTimesFrom st r p (d + t) = (arrivalTimesFrom st r p t).map (d + ·)
  | [], _, _ => rfl
  | i :: r, p, t => by
    unfold arrivalTimesFrom
    dsimp only
    rw [Nat.add_assoc, arr_shift st d r]
    rfl
theorem ins_at (st : Street) (d i : Nat) : ∀ l : List Nat, insertByDistance (at0 st d) i l = insertByDistance st i l
  | [] => rfl
  | j :: r => by
    unfold insertByDistance
    rw [ins_at st d i r]
    rfl
theorem sort_at (st : Street) (d : Nat) (xs : List Nat) : sortByDistance (at0 st d) xs = sortByDistance st xs := by
  unfold sortByDistance
  congr 1
  funext s i
  exact ins_at st d i s
theorem sweep_at (st : Street) (d : Nat) (xs : List Nat) : sweepingRoutes (at0 st d) xs = sweepingRoutes st xs := by
  unfold sweepingRoutes leftShops rightShops
  rw [sort_at, sort_at]
  rfl
theorem best_isSome (st : Street) (r : List Nat) : ∀ (rs : List (List Nat)) (o : Option (List Nat)), (rs.foldl (fun (best : Option (List Nat)) route => match best with
    | none => some route
    | some b => if finishTime st route < finishTime st b then some route else some b) o).isSome = (o.isSome || !rs.isEmpty)
  | [], o => by simp
  | q :: rs, o => by
    rw [List.foldl_cons, best_isSome st r rs]
    cases o with
    | none => simp
    | some b =>
      dsimp only
      split <;> simp
theorem best_some (st : Street) (xs : List Nat) : (bestRoute st xs).isSome = true ↔ ∃ r ∈ sweepingRoutes st xs, isOnTime st r = true := by
  have e : (bestRoute st xs).isSome = (false || !((sweepingRoutes st xs).filter (isOnTime st)).isEmpty) := best_isSome st [] _ none
  rw [e]
  simp only [Bool.false_or, Bool.not_eq_true', List.isEmpty_eq_false_iff]
  constructor
  · intro h
    obtain ⟨r, hr⟩ := List.exists_mem_of_ne_nil _ h
    obtain ⟨h1, h2⟩ := List.mem_filter.mp hr
    exact ⟨r, h1, h2⟩
  · rintro ⟨r, h1, h2⟩ e
    have z : r ∈ (sweepingRoutes st xs).filter (isOnTime st) := List.mem_filter.mpr ⟨h1, h2⟩
    rw [e] at z
    cases z
/-- what each shop of a route spares when the van leaves at 0 -/
def slack (st : Street) (r : List Nat) : List Int := (r.zip (arrivalTimes (at0 st 0) r)).map fun y => ((shopAt st y.1).deadline : Int) - (y.2 : Int)
theorem on_slack (st : Street) (t : Nat) (r : List Nat) : isOnTime (at0 st t) r = true ↔ ∀ z ∈ slack st r, (t : Int) ≤ z := by
  have e : arrivalTimes (at0 st t) r = (arrivalTimes (at0 st 0) r).map (t + ·) := by
    unfold arrivalTimes
    rw [arr_from_at, arr_from_at]
    show arrivalTimesFrom st r 0 t = (arrivalTimesFrom st r 0 0).map (t + ·)
    rw [← arr_shift]
    rfl
  unfold isOnTime slack
  rw [e, List.all_eq_true]
  constructor
  · intro h z hz
    obtain ⟨y, hy, rfl⟩ := List.mem_map.mp hz
    have q := h (y.1, t + y.2) (by
      rw [List.zip_map_right]
      exact List.mem_map.mpr ⟨y, hy, rfl⟩)
    have q2 : t + y.2 ≤ (shopAt st y.1).deadline := of_decide_eq_true q
    omega
  · intro h y hy
    rw [List.zip_map_right] at hy
    obtain ⟨u, hu, rfl⟩ := List.mem_map.mp hy
    have q := h _ (List.mem_map.mpr ⟨u, hu, rfl⟩)
    refine decide_eq_true ?_
    show t + u.2 ≤ (shopAt st u.1).deadline
    omega
/-- the latest time to leave for a route, at most 299 -/
def spare (st : Street) (r : List Nat) : Int := (slack st r).foldl min 299
theorem fold_min : ∀ (l : List Int) (a : Int), l.foldl min a ≤ a ∧ (∀ y ∈ l, l.foldl min a ≤ y) ∧ (l.foldl min a = a ∨ l.foldl min a ∈ l)
  | [], a => ⟨Int.le_refl _, fun y h => (by cases h), .inl rfl⟩
  | x :: l, a => by
    obtain ⟨h1, h2, h3⟩ := fold_min l (min a x)
    rw [List.foldl_cons]
    refine ⟨by omega, fun y hy => ?_, ?_⟩
    · rcases List.mem_cons.mp hy with rfl | hy
      · omega
      · exact h2 y hy
    · rcases h3 with h3 | h3
      · rw [h3]
        by_cases c : a ≤ x
        · exact .inl (by omega)
        · exact .inr (by rw [show min a x = x by omega]; exact List.mem_cons_self ..)
      · exact .inr (List.mem_cons_of_mem _ h3)
theorem spare_is (st : Street) (r : List Nat) (z : Int) (h1 : z ∈ (299 : Int) :: slack st r) (h2 : ∀ y ∈ (299 : Int) :: slack st r, z ≤ y) : z = spare st r := by
  obtain ⟨q1, q2, q3⟩ := fold_min (slack st r) 299
  unfold spare
  have a := h2 299 (List.mem_cons_self ..)
  have b : z ≤ (slack st r).foldl min 299 := by
    rcases q3 with e | e
    · rw [e]; exact a
    · exact h2 _ (List.mem_cons_of_mem _ e)
  have c : (slack st r).foldl min 299 ≤ z := by
    rcases List.mem_cons.mp h1 with e | e
    · rw [e]; exact q1
    · exact q2 z e
  omega
theorem on_spare (st : Street) (t : Nat) (ht : t < 300) (r : List Nat) : isOnTime (at0 st t) r = true ↔ (t : Int) ≤ spare st r := by
  rw [on_slack]
  obtain ⟨q1, q2, q3⟩ := fold_min (slack st r) 299
  constructor
  · intro h
    rcases q3 with e | e
    · unfold spare; rw [e]; omega
    · exact h _ e
  · intro h z hz
    have := q2 z hz
    unfold spare at h
    omega
theorem find_top (p : Nat → Bool) (m : Nat) (hm : p m = true) : ∀ n, m < n → (∀ k, m < k → k < n → p k = false) → (List.range n).reverse.find? p = some m
  | 0, h, _ => absurd h (Nat.not_lt_zero _)
  | n + 1, h, hk => by
    rw [List.range_succ, List.reverse_append]
    show List.find? p (n :: (List.range n).reverse) = some m
    by_cases e : m = n
    · subst e
      rw [List.find?_cons_of_pos hm]
    · rw [List.find?_cons_of_neg (by rw [hk n (by omega) (by omega)]; exact Bool.false_ne_true)]
      exact find_top p m hm n (by omega) fun k h1 h2 => hk k h1 (by omega)
theorem latest_is (st : Street) (M : Int) (h1 : M ∈ (sweepingRoutes st (allShops st)).map (spare st)) (h2 : ∀ y ∈ (sweepingRoutes st (allShops st)).map (spare st), y ≤ M) :
    latestDeparture st = if M < 0 then none else some M.toNat := by
  have hp : ∀ t, t < 300 → ((bestRoute (at0 st t) (allShops st)).isSome = true ↔ (t : Int) ≤ M) := fun t ht => by
    rw [best_some, sweep_at]
    constructor
    · rintro ⟨r, hr, ho⟩
      have a := (on_spare st t ht r).mp ho
      have b := h2 _ (List.mem_map.mpr ⟨r, hr, rfl⟩)
      omega
    · intro h
      obtain ⟨r, hr, e⟩ := List.mem_map.mp h1
      exact ⟨r, hr, (on_spare st t ht r).mpr (by omega)⟩
  have hM : M ≤ 299 := by
    obtain ⟨r, hr, rfl⟩ := List.mem_map.mp h1
    exact (fold_min (slack st r) 299).1
  show ((List.range 300).reverse.find? fun t => (bestRoute (at0 st t) (allShops st)).isSome) = _
  by_cases c : M < 0
  · rw [if_pos c, List.find?_eq_none]
    intro t ht
    have ht' : t < 300 := List.mem_range.mp (List.mem_reverse.mp ht)
    intro q
    have := (hp t ht').mp q
    omega
  · rw [if_neg c]
    refine find_top _ M.toNat ((hp M.toNat (by omega)).mpr (by omega)) 300 (by omega) fun k a b => ?_
    rw [Bool.eq_false_iff]
    intro q
    have := (hp k b).mp q
    omega
/-! ### sums -/
theorem foldl_sum : ∀ (l : List Nat) (a : Nat), l.foldl (· + ·) a = a + l.foldl (· + ·) 0
  | [], a => rfl
  | x :: l, a => by
    rw [List.foldl_cons, List.foldl_cons, foldl_sum l (a + x), foldl_sum l (0 + x)]
    omega
theorem sum_zs : ∀ l : List Nat, (l.map fun (i : Nat) => (i : Int)).sum = ((SrCommon.sum l : Nat) : Int)
  | [] => rfl
  | x :: l => by
    rw [List.map_cons, List.sum_cons, sum_zs l]
    unfold SrCommon.sum
    rw [List.foldl_cons, foldl_sum l (0 + x)]
    omega
/-! ### sets by bitmasks -/
theorem mask_pair (n m : Nat) : (SrCommon.maskMembers n m).Pairwise (· < ·) := List.pairwise_lt_range.filter _
theorem mask_lt (n m : Nat) : ∀ i ∈ SrCommon.maskMembers n m, i < n := fun i h => List.mem_range.mp (List.mem_filter.mp h).1
theorem mask_len (n m : Nat) : (SrCommon.maskMembers n m).length ≤ n := by
  have := List.length_filter_le (fun i => m / 2 ^ i % 2 == 1) (List.range n)
  rw [List.length_range] at this
  exact this
theorem mask_zero (n : Nat) : SrCommon.maskMembers n 0 = [] := by
  unfold SrCommon.maskMembers
  rw [List.filter_eq_nil_iff]
  intro i _
  simp
/-- one step of the search for the richest set -/
def richer (s : Street) (best : List Nat) (x : Nat) : List Nat :=
  let shops := SrCommon.maskMembers s.shops.length x
  if totalLoaves s best < totalLoaves s shops ∧ (bestRoute s shops).isSome = true then shops else best
def richTo (s : Street) (n : Nat) : List Nat := (List.range n).foldl (richer s) []
theorem rich_is (s : Street) : bestShops s = richTo s (2 ^ s.shops.length) := rfl
theorem rich_succ (s : Street) (n : Nat) : richTo s (n + 1) = richer s (richTo s n) n := by
  unfold richTo
  rw [List.range_succ, List.foldl_append]
  rfl
theorem rich_one (s : Street) : richTo s 1 = [] := by
  rw [rich_succ]
  show richer s [] 0 = []
  unfold richer
  dsimp only
  rw [mask_zero, if_neg]
  rintro ⟨h, _⟩
  exact absurd h (Nat.lt_irrefl _)
theorem best_nil (s : Street) : bestRoute s [] = some [] := rfl
theorem rich_mem (s : Street) : ∀ n, richTo s n = [] ∨ ∃ x, richTo s n = SrCommon.maskMembers s.shops.length x
  | 0 => .inl rfl
  | n + 1 => by
    rw [rich_succ]
    unfold richer
    dsimp only
    split
    · exact .inr ⟨n, rfl⟩
    · exact rich_mem s n
theorem loaves_nil (s : Street) : totalLoaves s [] = 0 := rfl
/-! ### routes that are given -/
theorem nats_of {n : Nat} {ns : List Int} (h : ns.all (fun i => SrCommon.isIndex i n) = true) : (SrCommon.intsToNats ns).map (fun (i : Nat) => (i : Int)) = ns ∧ ∀ i ∈ SrCommon.intsToNats ns, i < n := by
  rw [List.all_eq_true] at h
  have q : ∀ x ∈ ns, 0 ≤ x ∧ x < (n : Int) := fun x hx => by
    have z := h x hx
    unfold SrCommon.isIndex at z
    simpa using z
  constructor
  · unfold SrCommon.intsToNats
    rw [List.map_map]
    refine (List.map_congr_left fun x hx => ?_).trans (List.map_id ns)
    have := q x hx
    show ((x.toNat : Nat) : Int) = x
    omega
  · intro i hi
    obtain ⟨x, hx, rfl⟩ := List.mem_map.mp hi
    have := q x hx
    show x.toNat < n
    omega
end Br
end
section
set_option Elab.async false
set_option linter.all false
set_option maxRecDepth 100000
set_option maxHeartbeats 2000000
namespace BrK
open PySem PySem.Spec PyProof.Rows L2 LamX NdefX
/-! ### a lambda with parameters, called -/
/-- what a lambda is made of -/
structure LF where
  qual : Str
  params : Arguments
  body : Expr
  scope : Scope
  cl : List (Str × Addr)
  c : Addr
abbrev LF.nf (F : LF) : NF where
  name := "<lambda>"
  qual := F.qual
  params := F.params
  body := []
  scope := F.scope
  cl := F.cl
  c := F.c
abbrev LF.fd (F : LF) (pm ctv : Value) : FuncData := PySem.W.kla_fn "<lambda>" F.qual F.params F.body F.scope F.cl pm (.ref F.c) ctv
abbrev LF.obj (F : LF) (pm ctv : Value) : Obj := PySem.W.kla_obj "<lambda>" F.qual F.params F.body F.scope F.cl pm F.c ctv
section
variable {CX : CXT} {P : Program} {w : World} {K : PySem.W.Frag} {mg : Str → Option Value} {base : Heap} {N ps fr : List Str} {F : LF} {f : Addr} {A : Around} {outer : List Env} {s : Shared} {H : Hp} {E : XK} {us : List Value} {vs : List V} {ws : List (Option V)} {k : Nat} {Q : VK} {pm ctv : Value}
/-- the lambda at f, called: its body's reading tells what comes of it -/
theorem lam_run (S : NScope N ps fr F.scope) (hf : s.heap.get? f = some (F.obj pm ctv)) (hc : H F.c = some (CodeO F.c F.qual)) (hr : Room (k + 1) A) (e0 : Env0 P w K mg base A outer s H) (C : CellsAt F.cl fr ws s.heap H) (r : Vals vs us) (hl : vs.length = ps.length)
    (hb : bindArgs (F.fd pm ctv) ⟨us, []⟩ = pure (ps.zip us))
    (hbody : Room k (A.deeper (envF F.nf f s.heap.objs.size)) → ∃ t, PE (ncx CX P w K mg base N F.nf f A outer s H E) F.body t ∧ t (startF N vs ws) H Q) :
    codeAny (model P w) A (.call (.ref f) ⟨us, []⟩) (CR CX outer P w H s Q E) s := by
  have lim : s.heap.NoLimit := e0.mod.nolimit.keeps fun b o e => (e0.bs b o e).1
  refine PySem.W.kla_callFunE hr.depth hf rfl S.co S.gen rfl (codeO_at e0.hok hc) ?_
  rw [hb]
  refine wpAny_pure (wpAny_newFunctionEnv S.nocell (fun ⟨_, _⟩ hy => S.par _ (List.of_mem_zip hy).1) (fun h₁ hns hsb => ⟨lim.fresh _ hsb, ?_⟩) S.kind)
  show codeAny _ _ (.expr F.body (envF F.nf f s.heap.objs.size)) _ _
  have kp : ∀ b o, s.heap.get? b = some o → h₁.get? b = some o := fun b o e => (hsb.extBut b o (Nat.ne_of_lt (Heap.lt_size e))) (Heap.get?_push_of_some _ e)
  obtain ⟨t, ht, hq⟩ := hbody (hr.deeper _)
  have I := inv_startN (CX := CX) (N := N) (F := F.nf) (f := f) (E := E) (tk := s.toks + (ps.zip us).length) S hr.hd e0 hl r C hns kp
  refine PySem.W.kla_codeExpr (wpAny_mono (ht.run [] _ _ H Q I hq) (fun v s' z => ?_) fun e s' z => z)
  obtain ⟨x, H', J, rv, q⟩ := z
  exact ⟨x, H', J.os, J.bare, J.base, J.hok, rv, q⟩
end
/-! ### sorted by a key that gives pairs of whole numbers -/

/-- what a key holds -/
def kvOf (H : Hp) : Value → Int × Int
  | .ref q => match H q with
    | some (.tup [.int a, .int b]) => (a, b)
    | _ => (0, 0)
  | _ => (0, 0)
theorem kvOf_at {H : Hp} {q : Addr} {x y : Int} (h : H q = some (.tup [.int x, .int y])) : kvOf H (.ref q) = (x, y) := by
  unfold kvOf
  dsimp only
  rw [h]
theorem pair_at {P : Program} {w : World} {H : Hp} {h : Heap} {q : Addr} {x y : Int} (ok : HOk P w H h) (e : H q = some (.tup [.int x, .int y])) : Srt.IsPair h (.ref q) x y := by
  obtain ⟨_, its, r, o, ho, hc, n, hd⟩ := ok _ _ e
  obtain ⟨u1, u2, rfl, ⟨t1, rfl⟩, ⟨t2, rfl⟩⟩ := vals2 r
  exact ⟨q, o, t1, t2, n, rfl, ho, hc, hd⟩
section
variable {X : Cx} {pins : List (Addr × Obj)} {σ : L2.St} {H : Hp} {s : Shared}
/-- fewer pins -/
theorem fewer {more : List (Addr × Obj)} (I : Inv X (pins ++ more) σ H s) : Inv X pins σ H s :=
  I.pins_of fun p hp => I.pin p (List.mem_append_right _ (List.mem_append_left _ hp))
/-- the keys that have been made -/
structure Keys (k : Int → Int × Int) (ns : List Int) (H : Hp) (qs : List Addr) : Prop where
  le : qs.length ≤ ns.length
  at_ : ∀ (j : Nat) (q : Addr) (n : Int), qs[j]? = some q → ns[j]? = some n → H q = some (.tup [.int (k n).1, .int (k n).2])
theorem Keys.on {k : Int → Int × Int} {ns : List Int} {H H' : Hp} {qs : List Addr} (K : Keys k ns H qs) (t : ∀ b xs, H b = some (.tup xs) → H' b = some (.tup xs)) : Keys k ns H' qs :=
  ⟨K.le, fun j q n a b => t _ _ (K.at_ j q n a b)⟩
theorem Keys.snoc {k : Int → Int × Int} {ns : List Int} {H : Hp} {qs : List Addr} {q : Addr} {n : Int} (K : Keys k ns H qs) (hn : ns[qs.length]? = some n) (hq : H q = some (.tup [.int (k n).1, .int (k n).2])) : Keys k ns H (qs ++ [q]) := by
  refine ⟨?_, fun j q' n' a b => ?_⟩
  · have := (List.getElem?_eq_some_iff.mp hn).1
    rw [List.length_append, List.length_singleton]
    omega
  · rcases Nat.lt_trichotomy j qs.length with z | z | z
    · rw [List.getElem?_append_left z] at a
      exact K.at_ j q' n' a b
    · subst z
      rw [List.getElem?_append_right (Nat.le_refl _), Nat.sub_self] at a
      cases a
      rw [hn] at b
      cases b
      exact hq
    · rw [List.getElem?_eq_none (by rw [List.length_append, List.length_singleton]; omega)] at a
      cases a
/-- an untracked record of ours has been written, its pin with it -/
theorem rewritten {p : Addr} {o o' : Obj} {h' : Heap} {t' : Nat} {more : List (Addr × Obj)} {s0 : Shared} {σ0 : L2.St} {H0 : Hp} {pins0 : List (Addr × Obj)} (I0 : Inv X pins0 σ0 H0 s0) (I : Inv X (pins ++ ((p, o) :: more)) σ H s) (hp : s0.heap.objs.size ≤ p) (hpp : ∀ q ∈ pins ++ more, q.1 ≠ p) (hpn : ∀ q ∈ X.pn, q.1 ≠ p)
    (k : ∀ b u, b ≠ p → s.heap.get? b = some u → h'.get? b = some u) (e : h'.get? p = some o') (hd : ∀ v, o'.data ≠ .cell v) : Inv X (pins ++ ((p, o') :: more)) σ H { s with heap := h', toks := t' } := by
  have hpin := I.pin (p, o) (List.mem_append_right _ (List.mem_append_right _ (List.mem_cons_self ..)))
  have I1 : Inv X (pins ++ more) σ H s := I.pins_of fun q hq => I.pin q (List.mem_append_right _ ((List.mem_append.mp hq).elim (fun z => List.mem_append_left _ z) fun z => List.mem_append_right _ (List.mem_cons_of_mem _ z)))
  have I2 : Inv X (pins ++ more) σ H { s with heap := h', toks := t' } := I1.turned k hpin.2.1 hpin.2.2.1 (.inr (Nat.le_trans I0.sz hp)) (fun x c ec z => by
    obtain ⟨v, oc, hoc, hcd⟩ := I.cell x c ec
    rw [z] at hoc
    have q := hpin.1.symm.trans hoc
    exact hpin.2.2.2.2 v (by rw [Option.some.inj q]; exact hcd)) (fun q hq => (List.mem_append.mp hq).elim (hpn q) (hpp q))
  refine I2.pins_of fun q hq => ?_
  rcases List.mem_append.mp hq with z | z
  · exact I2.pin q (List.mem_append_right _ (List.mem_append_left _ z))
  · rcases List.mem_cons.mp z with rfl | z
    · exact ⟨e, hpin.2.1, hpin.2.2.1, hpin.2.2.2.1, hd⟩
    · exact I2.pin q (List.mem_append_right _ (List.mem_append_right _ z))
end
end BrK
end
section
set_option Elab.async false
set_option linter.all false
set_option maxRecDepth 100000
set_option maxHeartbeats 2000000
namespace BrK
open PySem PySem.Spec PyProof.Rows L2 LamX NdefX
section
variable {X : Cx} {pins pins0 : List (Addr × Obj)} {σ σ0 : L2.St} {H H0 : Hp} {s s0 : Shared} {k : Int → Int × Int} {ns : List Int} {its : List Value} {qs : List Addr} {kS a : Addr} {e e1 : Nat} {A : Around} {E : Value → Shared → Prop} {R : PySem.Fin → Shared → Prop}
abbrev ltK (H : Hp) : Value → Value → Bool := fun v u => SrtO.lexB (kvOf H v) (kvOf H u)
/-- the two lists of ours are let go: the one of the keys is forgotten, the other one is tracked from now on -/
theorem laid_end {o1 o2 : Obj} {h' : Heap} {t' : Nat} {xs : List V} {out : List Value} {c : Nat} (I0 : Inv X pins0 σ0 H0 s0) (I : Inv X (pins ++ [(kS, o1), (a, o2)]) σ H s) (hkS : s0.heap.objs.size ≤ kS) (ha : s0.heap.objs.size ≤ a) (hk2 : ∀ q ∈ X.pn ++ pins, q.1 ≠ kS ∧ q.1 ≠ a)
    (keep : ∀ b u, b ≠ kS → b ≠ a → s.heap.get? b = some u → h'.get? b = some u) (hz : xs.length ≤ sizeLine) (r : Vals xs out) (e : h'.get? a = some (seqObj "list" out.toArray c)) : Inv X pins σ (upd H a (.lst xs)) { s with heap := h', toks := t' } := by
  have p1 := I.pin (kS, o1) (List.mem_append_right _ (List.mem_append_right _ (List.mem_cons_self ..)))
  have p2 := I.pin (a, o2) (List.mem_append_right _ (List.mem_append_right _ (List.mem_cons_of_mem _ (List.mem_cons_self ..))))
  have J : Inv X pins σ H s := fewer I
  have nocell : ∀ (p : Addr) (o : Obj), s.heap.get? p = some o → (∀ v, o.data ≠ .cell v) → ∀ x c, X.env.cells.lookup x = some c → c ≠ p := fun p o h1 h2 x c ec z => by
    obtain ⟨v, oc, hoc, hcd⟩ := I.cell x c ec
    rw [z, h1] at hoc
    exact h2 v (by rw [Option.some.inj hoc]; exact hcd)
  have na : ∀ b u, H b = some u → b ≠ a := fun b u q z => by rw [z, p2.2.1] at q; cases q
  have nk : ∀ b u, H b = some u → b ≠ kS := fun b u q z => by rw [z, p1.2.1] at q; cases q
  refine J.step (g' := s.gens) (d' := s.drawn) (ch := [kS, a]) (fun b hb => ?_) (fun b o _ _ hc q _ => keep b o (fun z => hc (by simp [z])) (fun z => hc (by simp [z])) q) (fun b o _ _ hc q _ => ⟨o.slots, keep b o (fun z => hc (by simp [z])) (fun z => hc (by simp [z])) q⟩)
    (fun b o hc q n => by rw [upd_ne (fun z => hc (by simp [z]))]; exact n) (fun b o hc q => ⟨o, keep b o (fun z => hc (by simp [z])) (fun z => hc (by simp [z])) q⟩) (fun b x q => by rw [upd_ne (na b _ q)]; exact q) (fun b o u q => by rw [upd_ne (na b _ q)]; exact q)
    (fun b ps q => ⟨#[], by rw [upd_ne (na b _ q), q]; simp⟩) (fun m hm => ?_) (fun b u q => ?_) J.bare
  · have hb' : b = kS ∨ b = a := by simpa using hb
    rcases hb' with rfl | rfl
    · exact ⟨.inr (Nat.le_trans I0.sz hkS), p1.2.2.1, nocell _ _ p1.1 p1.2.2.2.2, fun q hq => (hk2 q hq).1⟩
    · exact ⟨.inr (Nat.le_trans I0.sz ha), p2.2.2.1, nocell _ _ p2.1 p2.2.2.2.2, fun q hq => (hk2 q hq).2⟩
  · obtain ⟨o, es, ep, ho, q⟩ := hm
    exact ⟨o, es, ep, keep _ o (Ne.symm p1.2.2.1) (Ne.symm p2.2.2.1) ho, q⟩
  · by_cases hb : b = a
    · subst hb
      rw [upd_same] at q
      cases q
      exact ⟨hz, out, c, r, e⟩
    · rw [upd_ne hb] at q
      refine (J.hok b u q).stay (fun d v hd w => ?_) (fun d w => by rw [upd_ne (na d _ w)]; exact w) fun d x w => by rw [upd_ne (na d _ w)]; exact w
      rcases hd with rfl | hd
      · exact keep _ _ (nk _ u q) (na _ u q) w
      · exact keep _ _ (nk _ _ hd) (na _ _ hd) w
/-- behind the sort of the pairs (key, item) -/
theorem tail_run {st : SortSt} (I0 : Inv X pins0 σ0 H0 s0) (I : Inv X (pins ++ [(kS, seqObj "list" (qs.map Value.ref).toArray e), (a, seqObj "list" #[] e1)]) σ H s) (hkS : s0.heap.objs.size ≤ kS) (ha : s0.heap.objs.size ≤ a) (hka : kS ≠ a) (hk2 : ∀ q ∈ X.pn ++ pins, q.1 ≠ kS ∧ q.1 ≠ a)
    (hi : IntsAre its ns) (hz : its.length ≤ sizeLine) (K : Keys k ns H qs) (hq : qs.length = ns.length) (hs : SrtO.Srtd (SrtO.lt2 (ltK H)) (arrOf st).toList) (hp : (arrOf st).toList.Perm ((qs.map Value.ref).zip its)) (hf : failedOf st = none)
    (fin : ∀ (ns' : List Int) (s' : Shared), ns'.Perm ns → ns'.Pairwise (fun x y => SrtO.lexB (k y) (k x) = false) → H a = none → s'.os = s.os → Inv X pins σ (upd H a (.lst (ns'.map V.int))) s' → R (.done (.ret .none)) s') :
    wpAny (model X.prog X.w) A (ksk_tail a false e1 (.ref kS) st) R E s := by
  have p1 := I.pin (kS, seqObj "list" (qs.map Value.ref).toArray e) (List.mem_append_right _ (List.mem_append_right _ (List.mem_cons_self ..)))
  have p2 := I.pin (a, seqObj "list" #[] e1) (List.mem_append_right _ (List.mem_append_right _ (List.mem_cons_of_mem _ (List.mem_cons_self ..))))
  have hlen := hi.length
  have mem : ∀ p ∈ (qs.map Value.ref).zip its, ∃ n t, n ∈ ns ∧ p.2 = Value.int n t ∧ kvOf H p.1 = k n := fun p hm => by
    obtain ⟨j, hj⟩ := List.mem_iff_getElem?.mp hm
    rw [List.getElem?_zip_eq_some, List.getElem?_map] at hj
    obtain ⟨h1, h2⟩ := hj
    cases eq : qs[j]? with
    | none => rw [eq] at h1; cases h1
    | some q =>
      rw [eq] at h1
      have h1' : Value.ref q = p.1 := Option.some.inj h1
      have hj : j < ns.length := by rw [← hq]; exact (List.getElem?_eq_some_iff.mp eq).1
      have hn : ns[j]? = some ns[j] := List.getElem?_eq_getElem hj
      obtain ⟨t, ht⟩ := hi.get j _ hn
      rw [h2] at ht
      exact ⟨_, t, List.getElem_mem hj, Option.some.inj ht, by rw [← h1']; exact kvOf_at (K.at_ j q _ eq hn)⟩
  have hns : (((qs.map Value.ref).zip its).map fun p => numOf p.2) = ns := by
    have q := congrArg (List.map numOf) (List.map_snd_zip (l₁ := qs.map Value.ref) (l₂ := its) (by rw [List.length_map]; omega))
    rw [List.map_map, hi.nums] at q
    exact q
  have hperm : ((arrOf st).toList.map fun p => numOf p.2).Perm ns := by
    have q := hp.map fun p => numOf p.2
    rw [hns] at q
    exact q
  have hpair : ((arrOf st).toList.map fun p => numOf p.2).Pairwise (fun x y => SrtO.lexB (k y) (k x) = false) := by
    refine List.pairwise_map.mpr (hs.imp_of_mem fun {x y} hx hy z => ?_)
    obtain ⟨n, t, _, h1, h2⟩ := mem x (hp.mem_iff.mp hx)
    obtain ⟨m, u, _, h3, h4⟩ := mem y (hp.mem_iff.mp hy)
    have z' : SrtO.lexB (kvOf H y.1) (kvOf H x.1) = false := z
    rw [h2, h4] at z'
    rw [h1, h3]
    exact z'
  have hout : ((arrOf st).map (·.2)).toList = (arrOf st).toList.map (·.2) := Array.toList_map ..
  have hints : IntsAre ((arrOf st).toList.map (·.2)) ((arrOf st).toList.map fun p => numOf p.2) := by
    have q := intsAre_map ((arrOf st).toList.map (·.2)) fun v hv => by
      obtain ⟨p, hm, rfl⟩ := List.mem_map.mp hv
      obtain ⟨n, t, _, h1, _⟩ := mem p (hp.mem_iff.mp hm)
      exact ⟨n, t, h1⟩
    rw [List.map_map] at q
    exact q
  have hsz : ((arrOf st).map (·.2)).size = its.length := by
    rw [Array.size_map, ← Array.length_toList, hp.length_eq, List.length_zip, List.length_map]
    omega
  have s1 := Heap.SameBut.update s.heap kS (Obj.mapSeq fun _ => (#[] : Array Value))
  have na1 : (s.heap.update kS (Obj.mapSeq fun _ => (#[] : Array Value))).get? a = some (seqObj "list" #[] e1) := (s1.2 a hka.symm).trans p2.1
  obtain ⟨c2, hc2⟩ : ∃ c2, ((s.heap.update kS (Obj.mapSeq fun _ => (#[] : Array Value))).update a (Obj.mapSeq fun _ => (arrOf st).map (·.2))).get? a = some (seqObj "list" ((arrOf st).map (·.2)) c2) := ⟨_, get?_update_seq na1 fun _ => (arrOf st).map (·.2)⟩
  have s2 := Heap.SameBut.update (s.heap.update kS (Obj.mapSeq fun _ => (#[] : Array Value))) a (Obj.mapSeq fun _ => (arrOf st).map (·.2))
  unfold ksk_tail
  dsimp only
  refine wpAny_bind (listUpdate_at p1.1 rfl ?_ (by rw [List.size_toArray, List.length_map]; omega) (Nat.zero_le _))
  refine wpAny_bind (wpAny_letGo (wpAny_bind (seqEpoch_at na1 rfl ?_)))
  refine wpAny_bind (listUpdate_at na1 rfl ?_ (Nat.zero_le _) ?_)
  · rw [hf]
    simp only [bne_self_eq_false, Bool.false_eq_true, if_false]
    refine wpAny_pure (fin _ _ hperm hpair p2.2.1 rfl ?_)
    refine laid_end (t' := s.toks) (c := c2) (out := (arrOf st).toList.map (·.2)) I0 I hkS ha hk2 (fun b u h1 h2 q => (s2.2 b h2).trans ((s1.2 b h1).trans q)) ?_ (vals_of_ints hints) ?_
    · rw [List.length_map, hperm.length_eq]
      omega
    · rw [← hout, Array.toArray_toList]
      exact hc2
  · simp only [Bool.false_eq_true, if_false]
    rw [hsz]
    omega
end
end BrK
end
section
set_option Elab.async false
set_option linter.all false
set_option maxRecDepth 100000
set_option maxHeartbeats 2000000
namespace BrK
open PySem PySem.Spec PyProof.Rows L2 LamX NdefX
section
variable {X : Cx} {pins pins0 : List (Addr × Obj)} {σ σ0 : L2.St} {H H0 : Hp} {s s0 : Shared} {k : Int → Int × Int} {ns : List Int} {its : List Value} {qs : List Addr} {kS a : Addr} {e e1 : Nat} {A : Around} {E : Value → Shared → Prop} {R : PySem.Fin → Shared → Prop}
theorem key_pairs (hok : HOk X.prog X.w H s.heap) (K : Keys k ns H qs) (hq : qs.length = ns.length) : ∀ v ∈ qs.map Value.ref, Srt.IsPair s.heap v (kvOf H v).1 (kvOf H v).2 := fun v hv => by
  obtain ⟨q, hm, rfl⟩ := List.mem_map.mp hv
  obtain ⟨j, hj⟩ := List.mem_iff_getElem?.mp hm
  have hl : j < ns.length := by rw [← hq]; exact (List.getElem?_eq_some_iff.mp hj).1
  have h := K.at_ j q _ hj (List.getElem?_eq_getElem hl)
  rw [kvOf_at h]
  exact pair_at hok h
theorem end_run (I0 : Inv X pins0 σ0 H0 s0) (I : Inv X (pins ++ [(kS, seqObj "list" (qs.map Value.ref).toArray e), (a, seqObj "list" #[] e1)]) σ H s) (hkS : s0.heap.objs.size ≤ kS) (ha : s0.heap.objs.size ≤ a) (hka : kS ≠ a) (hk2 : ∀ q ∈ X.pn ++ pins, q.1 ≠ kS ∧ q.1 ≠ a)
    (hi : IntsAre its ns) (hz : its.length ≤ sizeLine) (K : Keys k ns H qs) (hq : qs.length = ns.length)
    (fin : ∀ (ns' : List Int) (s' : Shared), ns'.Perm ns → ns'.Pairwise (fun x y => SrtO.lexB (k y) (k x) = false) → H a = none → s'.os = s.os → Inv X pins σ (upd H a (.lst (ns'.map V.int))) s' → R (.done (.ret .none)) s') :
    wpAny (model X.prog X.w) A (ksk_end a false its.toArray e1 (.ref kS) (qs.map Value.ref).toArray) R E s := by
  have hlen := hi.length
  have hzip : ((qs.map Value.ref).toArray.zip its.toArray).toList = (qs.map Value.ref).zip its := by simp
  unfold ksk_end
  dsimp only
  simp only [Bool.false_eq_true, if_false]
  by_cases h2 : its.toArray.size < 2
  · rw [if_pos h2, if_pos h2]
    refine wpAny_bind (wpAny_pure ?_)
    rw [StateT.run_pure]
    refine wpAny_bind (wpAny_pure (tail_run I0 I hkS ha hka hk2 hi hz K hq ?_ ?_ rfl fin))
    · show SrtO.Srtd _ ((qs.map Value.ref).toArray.zip its.toArray).toList
      rw [hzip]
      have hl : ((qs.map Value.ref).zip its).length < 2 := by
        rw [List.size_toArray] at h2
        rw [List.length_zip, List.length_map]
        omega
      generalize (qs.map Value.ref).zip its = l at hl
      match l, hl with
      | [], _ => exact List.Pairwise.nil
      | [x], _ => exact List.pairwise_singleton _ _
      | x :: y :: r, hl => exact absurd hl (by rw [List.length_cons, List.length_cons]; omega)
    · show ((qs.map Value.ref).toArray.zip its.toArray).toList.Perm _
      rw [hzip]
  · rw [if_neg h2, if_neg h2]
    rw [List.size_toArray] at h2
    have hp := key_pairs (X := X) (s := s) I.hok K hq
    obtain ⟨fs, k1, k2, k3⟩ := Srt.firsts_of fun v hm => ⟨_, _, hp v hm⟩
    rw [List.length_map] at k2
    refine wpAny_bind (PySem.W.kat_kind (T := .type "int") k1 (by omega) (fun f hm => ?_) (by rfl) ?_)
    · obtain ⟨x, t, rfl⟩ := k3 f hm
      exact PySem.W.Looks.now
    · have eT : (Value.type "int" != Value.type "tuple") = true := by first | decide +kernel | rfl | decide
      rw [eT]
      have hall : SrtO.AllL (fun p : Keyed => p.1 ∈ qs.map Value.ref) ((qs.map Value.ref).toArray.zip its.toArray).toList := fun p hm => by
        rw [hzip] at hm
        exact (List.of_mem_zip (show (p.1, p.2) ∈ _ from hm)).1
      refine wpAny_bind (wpAny_mono (SrtO.wpS_sortO (st0 := SortSt.mk' (tuples' true) ((qs.map Value.ref).toArray.zip its.toArray) #[] 7 none)
        (Q := fun _ st' => SrtO.Srtd (SrtO.lt2 (ltK H)) (arrOf st').toList ∧ (arrOf st').toList.Perm ((qs.map Value.ref).zip its) ∧ failedOf st' = none) (SrtO.swo2 (SrtO.swo_lex (kvOf H))) (SrtO.pair_cmp hp) rfl hall rfl rfl fun st' a1 a2 a3 => ⟨a1, ?_, a3⟩) ?_ fun _ _ z => z)
      · have q := a2.perm
        rw [show (arrOf (SortSt.mk' (tuples' true) ((qs.map Value.ref).toArray.zip its.toArray) #[] 7 none)).toList = (qs.map Value.ref).zip its from hzip] at q
        exact q
      · rintro ⟨⟨⟩, st'⟩ s' ⟨rfl, z1, z2, z3⟩
        exact tail_run I0 I hkS ha hka hk2 hi hz K hq z1 z2 z3 fin
end
end BrK
end
section
set_option Elab.async false
set_option linter.all false
set_option maxRecDepth 100000
set_option maxHeartbeats 2000000
namespace BrK
open PySem PySem.Spec PyProof.Rows L2 LamX NdefX
section
variable {X : Cx} {pins pins0 : List (Addr × Obj)} {σ σ0 : L2.St} {H H0 : Hp} {s s0 : Shared} {k : Int → Int × Int} {ns : List Int} {its : List Value} {kS a : Addr} {e1 : Nat} {A : Around} {E : Value → Shared → Prop} {R : PySem.Fin → Shared → Prop} {f : Value} {J : Hp → Prop}
theorem rest_run (I0 : Inv X pins0 σ0 H0 s0) (I : Inv X (pins ++ [(kS, seqObj "list" #[] 0), (a, seqObj "list" #[] e1)]) σ H s) (hkS : s0.heap.objs.size ≤ kS) (ha : s0.heap.objs.size ≤ a) (hka : kS ≠ a) (hk2 : ∀ q ∈ X.pn ++ pins, q.1 ≠ kS ∧ q.1 ≠ a)
    (hi : IntsAre its ns) (hz : its.length ≤ sizeLine) (hJ : J H)
    (turn : ∀ (n : Int) (t : Tok) (H' : Hp) (s' : Shared), n ∈ ns → Inv X pins σ H' s' → J H' → wpAny (model X.prog X.w) A (call f [.int n t]) (CE X.stack X.prog X.w H' s' fun v H'' => ∃ q, v = .ref q ∧ H'' q = some (.tup [.int (k n).1, .int (k n).2]) ∧ J H'') (fun _ _ => False) s')
    (fin : ∀ (H' : Hp) (ns' : List Int) (s' : Shared), J H' → ns'.Perm ns → ns'.Pairwise (fun x y => SrtO.lexB (k y) (k x) = false) → H' a = none → Inv X pins σ (upd H' a (.lst (ns'.map V.int))) s' → R (.done (.ret .none)) s') :
    wpAny (model X.prog X.w) A (ksk_rest a f false its.toArray e1 (.ref kS)) R E s := by
  have hlen := hi.length
  unfold ksk_rest
  refine wpAny_bind (wpAny_rule ?_)
  rw [List.forIn_toArray]
  refine wpAny_bind (ksk_fold (fun i s' => ∃ (H' : Hp) (qs : List Addr) (e : Nat), Inv X (pins ++ [(kS, seqObj "list" (qs.map Value.ref).toArray e), (a, seqObj "list" #[] e1)]) σ H' s' ∧ J H' ∧ qs.length = i ∧ Keys k ns H' qs) its 0 s
    ⟨H, [], 0, I, hJ, rfl, ⟨Nat.zero_le _, fun j q n h => by simp at h⟩⟩ ?step ?done)
  case step =>
    rintro j x s' hx ⟨H', qs, e, I', hJ', hl, K⟩
    rw [Nat.zero_add] at hl ⊢
    have hjl : j < ns.length := by
      have := (List.getElem?_eq_some_iff.mp hx).1
      omega
    have hn : ns[j]? = some ns[j] := List.getElem?_eq_getElem hjl
    obtain ⟨t, ht⟩ := hi.get j _ hn
    obtain rfl : x = Value.int ns[j] t := Option.some.inj (hx.symm.trans ht)
    refine wpAny_bind (wpAny_attempt (wpAny_mono (turn _ t H' s' (List.getElem_mem hjl) (fewer I') hJ') (fun v s2 he => ?_) fun _ _ z => z.elim))
    obtain ⟨v', H2, os, bare, un, hok, rv, q, ev, hq, hJ2⟩ := he
    subst ev
    obtain rfl : v = Value.ref q := rv
    have I2 := I'.call' os un hok bare (fun b z => absurd z List.not_mem_nil)
    have pk := I2.pin (kS, seqObj "list" (qs.map Value.ref).toArray e) (List.mem_append_right _ (List.mem_append_right _ (List.mem_cons_self ..)))
    have K2 := (K.on un.tups).snoc (by rw [hl]; exact hn) hq
    have hsz : (qs.map Value.ref).toArray.size ≤ its.length := by
      rw [List.size_toArray, List.length_map]
      omega
    dsimp only
    refine wpAny_bind (listUpdate_at pk.1 rfl ?_ (Nat.le_trans hsz hz) (by rw [Array.size_push]; omega))
    obtain ⟨c2, hc2⟩ : ∃ c2, (s2.heap.update kS (Obj.mapSeq (·.push (.ref q)))).get? kS = some (seqObj "list" ((qs.map Value.ref).toArray.push (.ref q)) c2) := ⟨_, get?_update_seq pk.1 (·.push (.ref q))⟩
    have ea : (qs.map Value.ref).toArray.push (.ref q) = ((qs ++ [q]).map Value.ref).toArray := by simp
    rw [ea] at hc2
    have sb := Heap.SameBut.update s2.heap kS (Obj.mapSeq (·.push (.ref q)))
    refine wpAny_pure ⟨rfl, H2, qs ++ [q], c2, ?_, hJ2, by rw [List.length_append, hl]; rfl, K2⟩
    refine rewritten (t' := s2.toks) I0 I2 hkS (fun r hr => ?_) (fun r hr => (hk2 r (List.mem_append_left _ hr)).1) (fun b u hb w => (sb.2 b hb).trans w) hc2 (fun v z => by cases z)
    rcases List.mem_append.mp hr with z | z
    · exact (hk2 r (List.mem_append_right _ z)).1
    · rw [List.mem_singleton.mp z]
      exact hka.symm
  case done =>
    rintro s' ⟨H', qs, e, I', hJ', hl, K⟩
    have pk := I'.pin (kS, seqObj "list" (qs.map Value.ref).toArray e) (List.mem_append_right _ (List.mem_append_right _ (List.mem_cons_self ..)))
    refine wpAny_bind (listItems_at pk.1 rfl ?_)
    exact end_run I0 I' hkS ha hka hk2 hi hz K (by omega) fun ns' s2 a1 a2 a3 _ a5 => fin H' ns' s2 hJ' a1 a2 a3 a5
/-- sorted(l, key=f): f gives a pair of whole numbers for each of the whole numbers of l -/
theorem sorted_keyed {l fa : Addr} {Q : VK} (I : Inv X pins σ H s) (hl : SqL X.K H l (ns.map V.int)) (hJ : J H)
    (turn : ∀ (n : Int) (t : Tok) (H' : Hp) (s' : Shared), n ∈ ns → Inv X pins σ H' s' → J H' → wpAny (model X.prog X.w) X.A.in1.in1 (call (.ref fa) [.int n t]) (CE X.stack X.prog X.w H' s' fun v H'' => ∃ q, v = .ref q ∧ H'' q = some (.tup [.int (k n).1, .int (k n).2]) ∧ J H'') (fun _ _ => False) s')
    (fin : ∀ (H' : Hp) (ns' : List Int) (p : Addr), J H' → H p = none → H' p = none → ns'.Perm ns → ns'.Pairwise (fun x y => SrtO.lexB (k y) (k x) = false) → Q (.ref p) (upd H' p (.lst (ns'.map V.int)))) :
    wpAny (model X.prog X.w) X.A (call (.builtin "sorted") [.ref l] [(Str.ofString "key", .ref fa)]) (EP X pins σ Q) E s := by
  obtain ⟨its, rv, pl, hz⟩ := I.list hl
  have hi := rv.ints
  have hlen := rv.length
  have hz' : its.length ≤ sizeLine := by omega
  refine call_function_entry_kw kind_sorted plain_sorted entry_sorted (ksk_s1 _ _) ?_
  unfold Builtin.«sorted»
  refine wpAny_bind (m := checkCount "sorted" 1 1 _) (wpAny_pure (wpAny_bind (collect_list pl.isList ?_ hz')))
  refine wpAny_bind (wpAny_newList ?_ hz')
  have hsz : ((s.heap.push (seqObj "list" #[] 0)).update s.heap.objs.size (Obj.mapSeq (· ++ its.toArray))).objs.size = s.heap.objs.size + 1 := by rw [Heap.size_update, size_push']
  generalize hh : (s.heap.push (seqObj "list" #[] 0)).update s.heap.objs.size (Obj.mapSeq (· ++ its.toArray)) = h1 at hsz ⊢
  have old1 : ∀ b o, s.heap.get? b = some o → h1.get? b = some o := fun b o q => by
    rw [← hh, Heap.get?_update_ne _ _ _ _ (Nat.ne_of_lt (Heap.lt_size q))]
    exact Heap.get?_push_of_some _ q
  have hoL : (h1.push (seqObj "list" its.toArray 0)).get? (s.heap.objs.size + 1) = some (seqObj "list" its.toArray 0) := by
    rw [← hsz]; exact Heap.get?_push_size _ rfl
  have old2 : ∀ b o, s.heap.get? b = some o → (h1.push (seqObj "list" its.toArray 0)).get? b = some o := fun b o q => Heap.get?_push_of_some _ (old1 b o q)
  have sz2 : (h1.push (seqObj "list" its.toArray 0)).objs.size = s.heap.objs.size + 2 := by rw [size_push', hsz]
  show wpAny _ _ _ _ _ { s with heap := h1.push (seqObj "list" its.toArray 0) }
  rw [hsz]
  generalize h1.push (seqObj "list" its.toArray 0) = h2 at hoL old2 sz2 ⊢
  refine wpAny_bind (wpAny_holding (wpAny_call_entry_kw slot_list_sort ⟨_, hoL, rfl⟩ entry_list_sort ?body (ksk_l1 _ _)))
  case body =>
    show wpAny (model X.prog X.w) X.A.in1.in1 (Builtin.«list.sort» ⟨[.ref (s.heap.objs.size + 1)], [(Str.ofString "key", .ref fa)]⟩) _ _ _
    rw [ksk_t1]
    unfold ksk_tree
    refine wpAny_bind (listItems_at hoL rfl (wpAny_bind (listUpdate_at hoL rfl ?_ (by rw [List.size_toArray]; exact hz') (Nat.zero_le _))))
    obtain ⟨e1, ho1⟩ : ∃ e1, (h2.update (s.heap.objs.size + 1) (Obj.mapSeq fun _ => (#[] : Array Value))).get? (s.heap.objs.size + 1) = some (seqObj "list" #[] e1) := ⟨_, get?_update_seq hoL fun _ => #[]⟩
    have sb := Heap.SameBut.update h2 (s.heap.objs.size + 1) (Obj.mapSeq fun _ => (#[] : Array Value))
    have sz3 : (h2.update (s.heap.objs.size + 1) (Obj.mapSeq fun _ => (#[] : Array Value))).objs.size = s.heap.objs.size + 2 := by rw [Heap.size_update, sz2]
    have old3 : ∀ b o, s.heap.get? b = some o → (h2.update (s.heap.objs.size + 1) (Obj.mapSeq fun _ => (#[] : Array Value))).get? b = some o := fun b o q => (sb.2 b (Nat.ne_of_lt (Nat.lt_succ_of_lt (Heap.lt_size q)))).trans (old2 b o q)
    dsimp only
    generalize h2.update (s.heap.objs.size + 1) (Obj.mapSeq fun _ => (#[] : Array Value)) = h3 at ho1 old3 sz3 ⊢
    refine wpAny_bind (seqEpoch_at ho1 rfl (wpAny_bind (wpAny_newTuple ?_ (by show its.length ≤ _; exact hz'))))
    refine wpAny_bind (wpAny_newList ?_ (Nat.zero_le _))
    refine wpAny_holding ?_
    dsimp only
    have sz4 : (h3.push { cls := .type "tuple", data := .seq its.toArray }).objs.size = s.heap.objs.size + 3 := by rw [size_push', sz3]
    have old5 : ∀ b o, s.heap.get? b = some o → ((h3.push { cls := .type "tuple", data := .seq its.toArray }).push { cls := .type "list", data := .seq #[] }).get? b = some o := fun b o q => Heap.get?_push_of_some _ (Heap.get?_push_of_some _ (old3 b o q))
    have I5 : Inv X pins σ H { s with heap := (h3.push { cls := .type "tuple", data := .seq its.toArray }).push { cls := .type "list", data := .seq #[] } } := I.kept (t' := s.toks) old5
    have hpk : ∀ q ∈ X.pn ++ pins, (show Nat from q.1) < s.heap.objs.size := fun q hq => Heap.lt_size (I.pin q hq).1
    have hL : (show Nat from X.env.locals) < s.heap.objs.size := I.lt
    refine rest_run (J := J) (pins := pins) (kS := (h3.push { cls := .type "tuple", data := .seq its.toArray }).objs.size) (a := s.heap.objs.size + 1) (e1 := e1) I (I5.pins_of fun p hp => ?_) (by omega) (by omega) (show (_ : Nat) ≠ _ by omega) (fun q hq => ?_) hi hz' hJ turn fun H' ns' s' a1 a2 a3 a4 a5 => ?_
    · rcases List.mem_append.mp hp with z | z
      · exact I5.pin p (List.mem_append_right _ z)
      · rcases List.mem_cons.mp z with rfl | z
        · exact ⟨Heap.get?_push_size _ rfl, I.hok.fresh (by omega), (fun z => by rw [← z] at hL; dsimp only at hL; omega), I.nofs (by omega), fun v z => by cases z⟩
        · rw [List.mem_singleton.mp z]
          exact ⟨Heap.get?_push_of_some _ (Heap.get?_push_of_some _ ho1), I.hok.fresh (by omega), (fun z => by rw [← z] at hL; dsimp only at hL; omega), I.nofs (by omega), fun v z => by cases z⟩
    · have := hpk q hq
      exact ⟨fun z => by rw [z] at this; dsimp only at this; omega, fun z => by rw [z] at this; dsimp only at this; omega⟩
    · exact ⟨_, rfl, wpAny_pure ⟨_, rfl, .ref (s.heap.objs.size + 1), _, a5, rfl, fin H' ns' _ a1 (I.hok.fresh (by omega)) a4 a2 a3⟩⟩
end
end BrK
end
section
set_option Elab.async false
set_option linter.all false
set_option maxRecDepth 100000
set_option maxHeartbeats 2000000
namespace BrK
open PySem PySem.Spec PyProof.Rows L2 LamX NdefX
theorem sq_ext {K : PySem.W.Frag} {H H' : Hp} {l : Addr} {xs : List V} (h : SqL K H l xs) (e : ExtN H H') : SqL K H' l xs := by
  rcases h with h | h
  · refine .inl ?_
    rcases h with h | ⟨o, h⟩
    · exact .inl (e _ _ h fun ps z => by cases z)
    · exact .inr ⟨o, e _ _ h fun ps z => by cases z⟩
  · exact .inr h
def tSortLam (T : List (Addr × Str)) (K : PySem.W.Frag) (N : List Str) (js : List Nat) (k : Int → Int × Int) (tb : TE) (ta : TA) : TE := fun σ H Q => ta σ H fun vs H1 => ∃ (l : Addr) (ns : List Int), vs = [.ref l] ∧ SqL K H1 l (ns.map V.int) ∧ Tabs T H1 ∧
  (∀ n ∈ ns, ∀ H2, ExtN H1 H2 → Tabs T H2 → tb (startF N [.int n] (js.map (slotAt σ))) H2 fun v H3 => ∃ q, v = .ref q ∧ H3 q = some (.tup [.int (k n).1, .int (k n).2]) ∧ ExtN H2 H3 ∧ Tabs T H3) ∧
  (∀ (H2 : Hp) (ns' : List Int) (p : Addr), ExtN H1 H2 → Tabs T H2 → H2 p = none → ns'.Perm ns → ns'.Pairwise (fun x y => SrtO.lexB (k y) (k x) = false) → Q (.ref p) (upd H2 p (.lst (ns'.map V.int))))
section
variable {X : Cx}
/-- sorted(e, key=lambda i: body), of whole numbers; the key is a new pair of whole numbers -/
theorem pe_sortedLam {T : List (Addr × Str)} {x : Str} {c P : Addr} {j : Nat} {params : Arguments} {body e : Expr} {scope : Scope} {N fr : List Str} {a : Str} {js : List Nat} {k : Int → Int × Int} {ta : TA} {tb : TE} {p lpos kpos pos : Pos}
    (hg : Gl X x) (hm : X.mg x = none) (hv : bootBuiltins x = some (.builtin "sorted")) (ha : PA X [e] ta) (TB : TabB X.base X.mg c P) (hcode : X.env.code = .ref c) (hmT : (P, X.env.qual ++ "<lambda>") ∈ T) (hu : ∀ p ∈ T, p.1 = P → p.2 = X.env.qual ++ "<lambda>")
    (hr : Room (j + 3) X.A) (S : NScope N [a] fr scope) (hfree : ∀ y ∈ scope.names, y.2 = .free → X.env.scope.names.lookup y.1 = some .cell ∨ X.env.scope.names.lookup y.1 = some .free) (hfr : ∀ y ∈ fr, (y, NameKind.free) ∈ scope.names) (hjs : js.map (fun j => X.N[j]?) = fr.map some) (hdef : defaultsOf params X.env = ([], []))
    (hbind : ∀ (q : Str) (cl : List (Str × Addr)) (pm cv ctv u : Value), bindArgs (PySem.W.kla_fn "<lambda>" q params body scope cl pm cv ctv) ⟨[u], []⟩ = pure ([a].zip [u]))
    (hbody : ∀ (A : Around) (outer : List Env) (s : Shared) (H : Hp) (E : XK) (f c' : Addr) (F : LF), F = ⟨X.env.qual ++ "<lambda>", params, body, scope, cloFrom X.env.cells scope.names [], c'⟩ → Room j (A.deeper (envF F.nf f s.heap.objs.size)) → PE (ncx L2.CX0 X.prog X.w X.K X.mg X.base N F.nf f A outer s H E) body tb)
    (hn : x ≠ "__name__" := by decide) (hdb : (x == ("__debug__" : Str)) = false := by decide)
    (he : backTo pos (starEach [e] X.env) = (false, eval e X.env) :: backTo pos (starEach [] X.env) := by rfl) (hpl : (backTo pos (starEach [e] X.env)).any (·.1) = false := by rfl) :
    PE X (.Call (.Name x p) [e] [⟨some "key", .Lambda params body scope lpos, kpos⟩] pos) (tSortLam T X.K N js k tb ta) := by
  refine ⟨fun pins s σ H Q I h => ?_⟩
  refine wpAny_Call_Name_kw (ld_blt I hg hm hv ?_ hn hdb)
  refine PyProof.Rows.callWith_kw (thn (ha.run pos pins s σ H _ I h) fun us s1 z => ?_) he hpl (by rfl) (by rfl)
  obtain ⟨vs, H1, I1, rv, ⟨l, ns, hx, hl, hT, hk, fin⟩⟩ := z
  obtain ⟨u, rfl, r1⟩ : ∃ u, us = [u] ∧ RelV (.ref l) u := vals1 (by rw [hx] at rv; exact rv)
  obtain rfl : u = Value.ref l := r1
  show wpAny _ _ (evalAll [do let v ← eval (.Lambda params body scope lpos) X.env; standAt pos; pure v]) _ _ s1
  have hfree' : ∀ y ∈ scope.names, y.2 = .free → ∃ c, X.env.cells.lookup y.1 = some c := fun y hy e => (hfree y hy e).elim (fun z => I.ok.has _ (.inl z)) fun z => I.ok.has _ (.inr z)
  refine wpAny_evalAll_cons (wpAny_bind (lam_make2 I1 TB hcode hmT hu hT hdef hfree' fun f c' pm ctv H2 s2 I2 eN T2 hf hfn hfrm hco => ?_))
  refine wpAny_bind (wpAny_standAt (wpAny_pure (wpAny_evalAll_nil ?_)))
  show wpAny _ _ (call (.builtin "sorted") [.ref l] [(Str.ofString "key", .ref f)]) _ _ _
  have hloc : f ≠ X.env.locals := fun z => by
    obtain ⟨m, ⟨o, es, ep, ho, hd, _⟩, _⟩ := I2.loc
    rw [← z, hf] at ho
    cases ho
    cases hd
  have hfs : f ∉ X.fs := fun z => by
    refine hfrm ?_
    rcases I.ok.stk with q | ⟨q, hfr⟩
    · rw [q]; exact z
    · rw [q]
      unfold frs
      rw [List.filterMap_cons, hfr]
      exact List.mem_cons_of_mem _ z
  have I3 : Inv X (pins ++ [(f, (LF.obj ⟨X.env.qual ++ "<lambda>", params, body, scope, cloFrom X.env.cells scope.names [], c'⟩ pm ctv))]) σ H2 s2 := I2.pins_of fun q hq => by
    rcases List.mem_append.mp hq with z | z
    · exact I2.pin q (List.mem_append_right _ z)
    · rw [List.mem_singleton.mp z]
      exact ⟨hf, hfn, hloc, hfs, fun v z => by cases z⟩
  refine wpAny_mono (sorted_keyed (k := k) (J := fun H' => ExtN H2 H' ∧ Tabs T H') (Q := Q) I3 (sq_ext hl eN) ⟨ExtN.refl _, T2⟩ (fun n t H' s' hn I' hJ => ?_) fun H' ns' q hJ n1 n2 hp ho => ?_) (fun v s' z => ?_) fun _ _ z => z
  · have hf' := (I'.pin _ (List.mem_append_right _ (List.mem_append_right _ (List.mem_cons_self ..)))).1
    have hco' : H' c' = some (CodeO c' (X.env.qual ++ "<lambda>")) := hJ.1 _ _ hco fun ps => codeO_ne ps
    refine wpAny_call (codeAny_mono (lam_run (Q := fun v H3 => ∃ q, v = .ref q ∧ H3 q = some (.tup [.int (k n).1, .int (k n).2]) ∧ ExtN H' H3 ∧ Tabs T H3) (CX := L2.CX0) (E := fun _ _ _ => False) (F := ⟨X.env.qual ++ "<lambda>", params, body, scope, cloFrom X.env.cells scope.names [], c'⟩) (k := j) (us := [.int n t]) (vs := [.int n]) S hf' hco' (hr.in1.in1) (I'.env0.in1.in1) (cells_of I' (Caps.made I'.ok hfree hfr hjs)) (.cons ⟨t, rfl⟩ .nil) rfl (hbind _ _ _ _ _ _) fun hr' => ⟨tb, hbody _ _ _ _ _ f c' _ rfl hr', ?_⟩) fun r s3 hq => ?_)
    · exact hk n hn H' (eN.trans hJ.1) hJ.2
    · cases r with
      | error e => exact (show False from hq).elim
      | ok fl =>
        cases fl with
        | ret u =>
          obtain ⟨v, H'', os, bare, un, hok, r, q, ev, hq, h1, h2⟩ := (show CE X.stack X.prog X.w H' s' _ u s3 from hq)
          exact ⟨v, H'', os, bare, un, hok, r, q, ev, hq, hJ.1.trans h1, h2⟩
        | next => exact False.elim hq
        | brk => exact False.elim hq
        | cont => exact False.elim hq
  · exact fin H' ns' q (eN.trans hJ.1) hJ.2 n2 hp ho
  · obtain ⟨v', H', I', r', q'⟩ := z
    exact ⟨v', H', fewer I', r', q'⟩
end
end BrK
end
section
set_option Elab.async false
set_option linter.all false
set_option maxRecDepth 100000
set_option maxHeartbeats 2000000
namespace BrT
open PySem PySem.Spec PyProof.Rows L2 LamX
open PySem.W (WData Codec OpenSpec Well WellAll ReadsW ReadsAllW)
/-- what is tracked at the call: the tables, and the list that is handed in -/
def H0 (tabs : List Addr) (K : PySem.W.Frag) (a : Addr) (o : Obj) (xs : List V) : Hp := fun b =>
  if b ∈ tabs then some (.tbl #[]) else if b = a ∧ K.lookup a = none then some (.frz o (.lst xs)) else none
section
variable {tabs : List Addr} {K : PySem.W.Frag} {a b : Addr} {o : Obj} {xs : List V} {u : HO}
theorem H0_tab (h : b ∈ tabs) : H0 tabs K a o xs b = some (.tbl #[]) := if_pos h
theorem H0_arg (h : a ∉ tabs) (k : K.lookup a = none) : H0 tabs K a o xs a = some (.frz o (.lst xs)) := by
  unfold H0
  rw [if_neg h, if_pos ⟨rfl, k⟩]
theorem H0_is (e : H0 tabs K a o xs b = some u) : (b ∈ tabs ∧ u = .tbl #[]) ∨ (b = a ∧ K.lookup a = none ∧ u = .frz o (.lst xs)) := by
  unfold H0 at e
  split at e
  · rename_i h
    exact .inl ⟨h, (Option.some.inj e).symm⟩
  · split at e
    · rename_i h
      exact .inr ⟨h.1, h.2, (Option.some.inj e).symm⟩
    · cases e
end
/-- the def of the row called with one list of whole numbers; cs: code objects with tables that are empty at the call -/
theorem spec_callT {P : Program} {w : World} {K : PySem.W.Frag} {q : Program} {loose : List Str} {mean : ExcName → Option Value} {mg mb : Str → Option Value} {k : Nat} {fa a : Addr} {cs : List (Addr × Addr)} {fd : FuncData} {x : Str} {sp : Sp} {s₁ : Shared} {vs : List Value} {ns : List Int} {R : PySem.W.WRecords} {cl : Str → Option Addr} {d0 : WData}
    (KX : K.In s₁.heap) (T : Top q loose mean mg mb s₁.heap) (hg : s₁.gens = #[]) (hT : ∀ p ∈ cs, s₁.heap.get? p.2 = some (PySem.W.tabObj #[])) (nT : ∀ p ∈ cs, K.lookup p.2 = none) (C : ∀ p ∈ cs, PySem.W.CodeHd s₁.heap p.1 p.2)
    (ha : s₁.heap.get? a = some { cls := .type "list", data := .seq vs.toArray }) (hi : IntsAre vs ns) (hl : ns.length ≤ sizeLine) (hr : Room k callerA)
    (F : ∀ base : Heap, K.In base → base.Ns mainGlobals mg → (∀ p ∈ cs, TabB base mg p.1 p.2) → FnOk P w K mg base L2.CX0 k fa fd [x] sp) (hbind : ∀ (s : Shared) (u : Value), BindsTo s fd ⟨[u], []⟩ [(x, u)])
    (hsp : ∀ H : Hp, (∀ p ∈ cs, H p.2 = some (.tbl #[])) → SqL K H a (ns.map V.int) → sp [.ref a] H (fun v H' => Dw K H' v d0) fun _ _ _ => False) :
    codeAny (model P w) callerA (.call (.ref fa) ⟨[.ref a], []⟩) (fun r s' => ∃ u as, r = .ok (.ret u) ∧ ReadsW R cl s'.heap u d0 as ∧ OldK s₁.heap s'.heap ∧ s'.os = s₁.os ∧ AllBare s'.gens) s₁ := by
  have isT : ∀ b ∈ cs.map (·.2), s₁.heap.get? b = some (PySem.W.tabObj #[]) := fun b hb => by
    obtain ⟨p, hp, rfl⟩ := List.mem_map.mp hb
    exact hT p hp
  have aT : a ∉ cs.map (·.2) := fun z => by
    have y := ha.symm.trans (isT a z)
    cases y
  generalize hH : H0 (cs.map (·.2)) K a { cls := .type "list", data := .seq vs.toArray } (ns.map V.int) = H
  have cas : ∀ {b u}, H b = some u → (b ∈ cs.map (·.2) ∧ u = .tbl #[]) ∨ (b = a ∧ K.lookup a = none ∧ u = .frz { cls := .type "list", data := .seq vs.toArray } (.lst (ns.map V.int))) := fun {b u} e => H0_is (by rw [hH]; exact e)
  have free : ∀ {b : Addr} {o : Obj}, s₁.heap.get? b = some o → o ≠ PySem.W.tabObj #[] → (∀ us n, o.data ≠ .seq us n) → H b = none := fun {b o} e n1 n2 => by
    cases z : H b with
    | none => rfl
    | some u =>
      rcases cas z with ⟨hb, _⟩ | ⟨rfl, _, _⟩
      · exact absurd (Option.some.inj (e.symm.trans (isT b hb))) n1
      · have y := Option.some.inj (e.symm.trans ha)
        exact absurd (congrArg Obj.data y) (n2 _ _)
  have hok : HOk P w H s₁.heap := fun b u e => by
    rcases cas e with ⟨hb, rfl⟩ | ⟨rfl, _, rfl⟩
    · exact isT b hb
    · exact ⟨ha, by rw [List.length_map]; exact hl, vs, _, vals_of_ints hi, ha⟩
  have old : ∀ {b : Addr} {o : Obj}, s₁.heap.get? b = some o → H b = none → (hidT s₁.heap H).get? b = some o := fun e n => hidT_get e n
  have isD : ∀ {b : Addr} {o : Obj} {es : Array DictEntry} {ep : Nat}, s₁.heap.get? b = some o → o.data = .dict es ep → H b = none := fun {b o es ep} e d =>
    free e (fun z => by rw [z] at d; cases d) (fun us n z => by rw [d] at z; cases z)
  have ns' : ∀ {b : Addr} {m : Str → Option Value}, s₁.heap.Ns b m → (hidT s₁.heap H).Ns b m := fun {b m} ⟨o, es, ep, e, d, r⟩ => ⟨o, es, ep, old e (isD e d), d, r⟩
  have KH : ∀ b o, K.lookup b = some o → H b = none := fun b o e => by
    cases z : H b with
    | none => rfl
    | some u =>
      rcases cas z with ⟨hb, _⟩ | ⟨rfl, y, _⟩
      · obtain ⟨p, hp, rfl⟩ := List.mem_map.mp hb
        exact absurd ((nT p hp).symm.trans e) (by simp)
      · exact absurd (y.symm.trans e) (by simp)
  have KB : K.In (hidT s₁.heap H) := fun b o e => old (KX b o e) (KH b o e)
  have M : L2.Mod K mg (hidT s₁.heap H) := ⟨KB, ns' T.g, ⟨mb, ns' T.b, T.builtins⟩, (T.nolimit).elim fun mc z => ⟨mc, ns' z.1, z.2⟩⟩
  have TB : ∀ p ∈ cs, TabB (hidT s₁.heap H) mg p.1 p.2 := fun p hp => by
    have ht := hT p hp
    refine ⟨?_, ?_, fun z => ?_⟩
    · obtain ⟨o, us, file, tf, flags, tg, inF, text, tt, e1, r1, r2, r3⟩ := C p hp
      exact ⟨o, us, file, tf, flags, tg, inF, text, tt, old e1 (free e1 (fun z => by rw [z] at r1; cases r1) fun vs n z => by rw [r2] at z; cases z), r1, r2, r3⟩
    · obtain ⟨bm, ob, b1, b2, b3, b4, b5, b6⟩ := T.bmain
      refine ⟨bm, ob, b1, b2, fun y => ?_, fun y => ?_, old b3 (free b3 (fun z => by rw [z] at b4; cases b4) fun vs n z => by rw [b6] at z; cases z), b4, b5, b6⟩
      · obtain ⟨o, es, ep, e, hd, _⟩ := T.g
        rw [← y, b3] at e
        cases e
        rw [b6] at hd
        cases hd
      · rw [y, ht] at b3
        cases b3
        cases b4
    · obtain ⟨o, es, ep, e, hd, _⟩ := T.g
      rw [z, ht] at e
      cases e
      cases hd
  have e0 : Env0 P w K mg (hidT s₁.heap H) callerA [] s₁ H := ⟨rfl, M, fun b o e => of_hidT e, Nat.le_of_eq (hidT_size _ _), trivial, fun b hb => absurd (show b ∈ ([] : List Addr) from hb) List.not_mem_nil, hok, .of_eq hg⟩
  have sq : SqL K H a (ns.map V.int) := by
    cases hk : K.lookup a with
    | none => exact .inl (.inr ⟨_, by rw [← hH]; exact H0_arg aT hk⟩)
    | some o =>
      obtain rfl : _ = o := Option.some.inj (ha.symm.trans (KX a o hk))
      exact .inr ⟨_, vs.toArray, _, hk, rfl, rfl, rfl, by rw [List.size_toArray, hi.length]; exact hl, vals_of_ints hi⟩
  have tb : ∀ p ∈ cs, H p.2 = some (.tbl #[]) := fun p hp => by rw [← hH]; exact H0_tab (List.mem_map.mpr ⟨p, hp, rfl⟩)
  refine codeAny_mono ((F _ KB (ns' T.g) TB).run callerA [] s₁ H ⟨[.ref a], []⟩ [.ref a] [.ref a] _ _ hr e0 (hbind s₁ (.ref a)) (.cons rfl .nil) (hsp H tb sq)) fun r s' y => ?_
  cases r with
  | error e => exact (show False from y).elim
  | ok fl =>
    cases fl with
    | next => exact False.elim y
    | brk => exact False.elim y
    | cont => exact False.elim y
    | ret u =>
      obtain ⟨v, H', os, bare, un, hok', rv, dw⟩ := y
      have kept : ∀ b o, b ∉ cs.map (·.2) → s₁.heap.get? b = some o → s'.heap.get? b = some o := fun b o nb e => by
        cases z : H b with
        | none => exact un.keep b o e z (fun y => absurd (show b ∈ ([] : List Addr) from y) List.not_mem_nil) List.not_mem_nil
        | some w =>
          rcases cas z with ⟨hb, _⟩ | ⟨rfl, _, rfl⟩
          · exact absurd hb nb
          · have e2 := (hok' b _ (un.frzs b _ _ z)).1
            obtain rfl := Option.some.inj (e.symm.trans ha)
            exact e2
      have grown : ∀ p ∈ cs, ∃ more : Array Value, s'.heap.get? p.2 = some { cls := .none, data := .fields more } := fun p hp => by
        obtain ⟨more, z⟩ := un.tbls p.2 #[] (tb p hp)
        exact ⟨_, hok' p.2 _ z⟩
      have KX' : K.In s'.heap := fun b o e => kept b o (fun z => by
        obtain ⟨p, hp, rfl⟩ := List.mem_map.mp z
        exact absurd ((nT p hp).symm.trans e) (by simp)) (KX b o e)
      obtain ⟨as, hrd⟩ := Dw.reads (R := R) (cl := cl) hok' KX' d0 v u dw rv
      refine ⟨u, as, rfl, hrd, ⟨fun b o e => ?_, fun b o e => ?_⟩, os, bare⟩
      · by_cases hb : b ∈ cs.map (·.2)
        · obtain ⟨p, hp, rfl⟩ := List.mem_map.mp hb
          obtain ⟨more, hm⟩ := grown p hp
          obtain rfl := Option.some.inj (e.symm.trans (hT p hp))
          exact .inr (.inl ⟨((C p hp).tab (hT p hp)).isCodeTable, rfl, #[], more, rfl, hm.trans (by rw [Array.empty_append])⟩)
        · exact .inl (kept b o hb e)
      · by_cases hb : b ∈ cs.map (·.2)
        · obtain ⟨p, hp, rfl⟩ := List.mem_map.mp hb
          obtain ⟨more, hm⟩ := grown p hp
          exact ⟨_, hm⟩
        · exact ⟨o, kept b o hb e⟩
end BrT
end
section
set_option Elab.async false
set_option linter.all false
set_option maxRecDepth 100000
set_option maxHeartbeats 2000000
namespace BrT
open PySem PySem.Spec PyProof.Rows L2 LamX
open PySem.W (WData Codec OpenSpec Well WellAll ReadsW ReadsAllW)
theorem ints_well {Pm : Params} {h : Heap} : ∀ {vs : List Value} (ns : List Int), WellAll Pm h vs (ns.map WData.int) → IntsAre vs ns
  | _, [], x => by cases x; exact .nil
  | _, n :: r, x => by
    cases x with
    | cons a b => cases a; exact .cons n _ (ints_well r b)
theorem walk_specT {r : OpenSpec} {k : Nat} {q : Program} {loose : List Str} {XP : (Str → Option Value) → Heap → Prop} {YP : World → Heap → Prop} {d : DefRec} {K : Params → PySem.W.Frag} {x : Str} {Good : List Int → WData → Prop}
    (hwell : r.wellSaid = true) (hdf : d.params.defaults = []) (hr : Room k callerA) (hY : ∀ (w : World) (h : Heap), YP w h → (K w.params).In h)
    (henc : ∀ a : Codec.denoteAll r.args, Codec.withinAll r.args a = true → Codec.app r.args r.asked a = true → ∃ ns : List Int, Codec.encAll r.args a = [WData.list (ns.map WData.int)] ∧ ns.length ≤ sizeLine ∧ Good ns (r.ret.enc (Codec.app r.args r.f a)))
    (F : ∀ (w : World) (mean : ExcName → Option Value) (mg mb : Str → Option Value) (fa : Addr) (h : Heap), YP w h → (K w.params).In h → Top q (PySem.W.looseW q loose) mean mg mb h → mg d.name = some (.ref fa) →
      ∃ (fd : FuncData) (cs : List (Addr × Addr)) (sp : Sp), (∀ p ∈ cs, h.get? p.2 = some (PySem.W.tabObj #[])) ∧ (∀ p ∈ cs, (K w.params).lookup p.2 = none) ∧ (∀ p ∈ cs, PySem.W.CodeHd h p.1 p.2) ∧ (∀ (s : Shared) (u : Value), BindsTo s fd ⟨[u], []⟩ [(x, u)]) ∧
        (∀ (H : Hp) (a : Addr) (ns : List Int) (d0 : WData), Good ns d0 → (∀ p ∈ cs, H p.2 = some (.tbl #[])) → SqL (K w.params) H a (ns.map V.int) → sp [.ref a] H (fun v H' => Dw (K w.params) H' v d0) fun _ _ _ => False) ∧
        ∀ base : Heap, (K w.params).In base → base.Ns mainGlobals mg → (∀ p ∈ cs, TabB base mg p.1 p.2) → FnOk r.prog w (K w.params) mg base L2.CX0 k fa fd [x] sp) :
    PySem.W.WalkOS q loose XP YP r d [] (fun f vs => PySem.call f vs) := by
  intro w s₀ s₁ mg mb G Y fa o pm cd doc dV kV ho hd hcd hD hmg hg args vals as hpre hlay hrd hwl hlo
  obtain ⟨a, e1, e2⟩ := PySem.W.os_pre_some hpre
  obtain ⟨rfl, hwi⟩ := Codec.encAll_of_decAll r.args args a e1
  have KX := hY w _ Y
  obtain ⟨fd, cs, sp, f1, f2, f3, f4, f5, f6⟩ := F w _ mg mb fa _ Y KX G.T hmg
  obtain ⟨ns, he, hl, hgd⟩ := henc a hwi e2
  rw [he] at hwl
  obtain ⟨v, vr, rfl, w1, w2⟩ := well_cons hwl
  cases w2
  obtain ⟨p, vs, rfl, hp, hall⟩ := well_list w1
  refine PySem.W.enter_call (codeAny_mono (spec_callT (R := []) (cl := classAt s₀.heap) (d0 := r.ret.enc (Codec.app r.args r.f a)) KX G.T hg f1 f2 f3 hp (ints_well ns hall) hl hr f6 f4 fun H hH hs => f5 H p ns _ hgd hH hs) fun r' s' hq => ?_)
  obtain ⟨u, as', rfl, h1, h2, h3, h4⟩ := hq
  exact ⟨.inl ⟨u, _, as', rfl, fun _ => rfl, h1, (OpenSpec.post_iff hwell hwi _ _).mpr rfl, fun z => Bool.noConfusion (show false = true from z)⟩, h2, h3, h4⟩
end BrT
end
section
set_option Elab.async false
set_option linter.all false
set_option maxRecDepth 100000
set_option maxHeartbeats 2000000
namespace Br
open PySem PySem.Spec PyProof.Rows L2 LamX NdefX BrK
/-! ### the text by places -/
def top (i : Nat) : Stmt := PySem.Challenge.pw_breadstreet_s01_answers.main.body.getD i (.Pass ⟨0, 0, 0, 0⟩)
/-! ### whole numbers that are natural ones -/
def nv (i : Nat) : V := .int (i : Int)
def nats (xs : List Nat) : List V := xs.map nv
def zs (xs : List Nat) : List Int := xs.map fun (i : Nat) => (i : Int)
theorem zs_nats (xs : List Nat) : (zs xs).map V.int = nats xs := by
  unfold zs nats
  rw [List.map_map]
  rfl
/-! ### the shops in the heap -/
def shF (s : Sr100.Shop) : List (Str × V) := [("position", .int s.position), ("deadline", nv s.deadline), ("loaves", nv s.loaves)]
theorem shF_pos (s : Sr100.Shop) : (shF s).lookup ("position" : Str) = some (.int s.position) := rfl
theorem shF_dead (s : Sr100.Shop) : (shF s).lookup ("deadline" : Str) = some (nv s.deadline) := by
  show List.lookup _ (_ :: _) = _
  rw [List.lookup_cons, show (("deadline" : Str) == ("position" : Str)) = false by decide]
  rfl
theorem shF_loaf (s : Sr100.Shop) : (shF s).lookup ("loaves" : Str) = some (nv s.loaves) := by
  show List.lookup _ (_ :: _ :: _) = _
  rw [List.lookup_cons, show (("loaves" : Str) == ("position" : Str)) = false by decide]
  rw [List.lookup_cons, show (("loaves" : Str) == ("deadline" : Str)) = false by decide]
  rfl
/-- the shop s stands at a -/
def ShopAt (CS : Addr) (H : Hp) (a : Addr) (s : Sr100.Shop) : Prop := ∃ dx, H a = some (.ins CS dx (shF s))
/-- the list at l holds the shops ss, at the addresses as -/
structure ShopsAt (CS : Addr) (H : Hp) (l : Addr) (as : List Addr) (ss : List Sr100.Shop) : Prop where
  lst : H l = some (.lst (as.map V.ref))
  len : as.length = ss.length
  nd : as.Nodup
  at_ : ∀ (j : Nat) (a : Addr) (s : Sr100.Shop), as[j]? = some a → ss[j]? = some s → ShopAt CS H a s
theorem ShopsAt.ext {CS : Addr} {H H' : Hp} {l : Addr} {as : List Addr} {ss : List Sr100.Shop} (S : ShopsAt CS H l as ss) (e : ExtN H H') : ShopsAt CS H' l as ss :=
  ⟨e _ _ S.lst fun ps z => (by cases z), S.len, S.nd, fun j a s h1 h2 => let ⟨dx, h⟩ := S.at_ j a s h1 h2; ⟨dx, e _ _ h fun ps z => (by cases z)⟩⟩
theorem ShopsAt.get {CS : Addr} {H : Hp} {l : Addr} {as : List Addr} {st : Sr100.Street} (S : ShopsAt CS H l as st.shops) {i : Nat} (hi : i < st.shops.length) : ∃ a dx, as[i]? = some a ∧ H a = some (.ins CS dx (shF (Sr100.shopAt st i))) := by
  have hl : i < as.length := by rw [S.len]; exact hi
  have h1 : as[i]? = some as[i] := List.getElem?_eq_getElem hl
  have h2 : st.shops[i]? = some (Sr100.shopAt st i) := by
    rw [List.getElem?_eq_getElem hi]
    unfold Sr100.shopAt
    rw [List.getD_eq_getElem?_getD, List.getElem?_eq_getElem hi]
    rfl
  obtain ⟨dx, h⟩ := S.at_ i _ _ h1 h2
  exact ⟨_, dx, h1, h⟩
/-- what the top has written, as far as the shops go -/
structure TxtS (K : PySem.W.Frag) (mg : Str → Option Value) (CS : Addr) : Prop where
  cl : Cls K CS
  nP : NoAttr K CS "position"
  nD : NoAttr K CS "deadline"
  nL : NoAttr K CS "loaves"
/-! ### by_distance -/
abbrev sBy : Stmt := top 1
abbrev TbL (P : Addr) : List (Addr × Str) := [(P, ((("by_distance" : Str) ++ (".<locals>." : Str)) ++ ("<lambda>" : Str)))]
def spBy (K : PySem.W.Frag) (CS P : Addr) : Sp := fun vs H Q _ => ∃ (l c : Addr) (as : List Addr) (st : Sr100.Street) (xs : List Nat), vs = [.ref l, .ref c] ∧ ShopsAt CS H l as st.shops ∧ SqL K H c (nats xs) ∧ xs.Pairwise (· < ·) ∧ (∀ i ∈ xs, i < st.shops.length) ∧ Tabs (TbL P) H ∧
  ∀ (H' : Hp) (p : Addr), ExtN H H' → Tabs (TbL P) H' → H' p = some (.lst (nats (Sr100.sortByDistance st xs))) → Q (.ref p) H'
/-- the key of a shop -/
def keyOf (st : Sr100.Street) (n : Int) : Int × Int := (if (Sr100.shopAt st n.toNat).position < 0 then -(Sr100.shopAt st n.toNat).position else (Sr100.shopAt st n.toNat).position, n)
theorem sorted_is (st : Sr100.Street) (xs : List Nat) (ns : List Int) (hx : xs.Pairwise (· < ·)) (hp : ns.Perm (zs xs)) (ho : ns.Pairwise fun x y => SrtO.lexB (keyOf st y) (keyOf st x) = false) : ns.map V.int = nats (Sr100.sortByDistance st xs) := by
  have e : ns = zs (ns.map Int.toNat) := by
    unfold zs
    rw [List.map_map]
    have q : ns.map ((fun (i : Nat) => (i : Int)) ∘ Int.toNat) = ns.map id := List.map_congr_left fun z hz => ?_
    · rw [q, List.map_id]
    obtain ⟨i, _, rfl⟩ := List.mem_map.mp (hp.mem_iff.mp hz)
    rfl
  have h1 : (ns.map Int.toNat).Perm xs := by
    have q := hp.map Int.toNat
    have z : (zs xs).map Int.toNat = xs := by
      unfold zs
      rw [List.map_map]
      exact List.map_id'' (fun i => rfl) xs
    rw [z] at q
    exact q
  rw [e] at ho
  have h2 : (ns.map Int.toNat).Pairwise fun i j => ¬ Ahead st j i := by
    refine (List.pairwise_map.mp ho).imp fun {i j} z => ?_
    have z' := SrtO.lexB_no.mp z
    unfold keyOf at z'
    unfold Ahead dis
    simp only [Int.toNat_natCast] at z'
    revert z'
    split <;> split <;> omega
  rw [e, zs_nats, sort_only st xs _ hx h1 h2]
end Br
end
section
set_option Elab.async false
set_option linter.all false
set_option maxRecDepth 100000
set_option maxHeartbeats 2000000
namespace Br
open PySem PySem.Spec PyProof.Rows L2 LamX NdefX BrK
def tBy (K : PySem.W.Frag) : TE := tTup (tCons (tCB (fun xs H Q => ∃ i, xs = [.int i] ∧ Q (.int (if i < 0 then -i else i)) H) (tCons (tFld K (tOp (rIxL K) (tVar 1) (tVar 0)) "position") tNil)) (tCons (tVar 0) tNil))
section
variable {P : Program} {w : World} {K : PySem.W.Frag} {mg : Str → Option Value} {base : Heap} {CS c Pt : Addr}
theorem scBy : FnScope ["shops", "chosen"] ["shops", "chosen"] (defScope sBy) := ⟨rfl, rfl, rfl, by decide +kernel, rfl, by decide +kernel, by decide +kernel⟩
theorem ok_by {f : Addr} {oc kV dc pm ct : Value} {od an : Option Addr} {sl : Array (Option Value)} (T : TxtS K mg CS) (gS : mg "sorted" = none) (gA : mg "abs" = none) (TB : TabB base mg c Pt)
    (l : K.lookup f = some ⟨oc, od, .func (PySem.W.fnOf "by_distance" "by_distance" (defArgs sBy) (defBody sBy) (defScope sBy) .none kV dc pm an (.ref c) ct), sl⟩) (hc : PySem.W.codeIn K (.ref c) "by_distance" = true) :
    FnOk P w K mg base CX0 4 f (PySem.W.fnOf "by_distance" "by_distance" (defArgs sBy) (defBody sBy) (defScope sBy) .none kV dc pm an (.ref c) ct) ["shops", "chosen"] (spBy K CS Pt) := by
  refine fn_of l hc scBy (fun vs H Q E h => ?_) (fun A outer s H vs Q E hr h => ?_)
  · obtain ⟨_, _, _, _, _, rfl, _⟩ := h
    rfl
  · obtain ⟨l, cl, as, st, xs, rfl, S, hs, hx, hb, hT, k⟩ := h
    refine ⟨_, PSs.nox (pss_one (ps_ret (pe_sortedLam (j := 0) (T := TbL Pt) (N := ["i", "shops"]) (fr := ["shops"]) (a := "i") (js := [0]) (k := keyOf st) (tb := tBy K) (by rfl) gS (by decide +kernel) (pa_cons (pv 1) pa_nil) TB rfl (List.mem_singleton.mpr rfl) (fun p hp _ => by rw [List.mem_singleton.mp hp]; rfl)
      hr (nscope_by (by decide +kernel)) (ndef_free (sc := defScope sBy) (fr := ["shops"]) (by decide +kernel)) (ndef_fr (sc := defScope sBy) (by decide +kernel)) rfl rfl (fun _ _ _ _ _ _ => rfl)
      (fun A' outer' s' H' E' f' c' F hF hr' => by
        subst hF
        exact pe_tup (pa_cons (pe_callB call_abs (by rfl) gA (by decide +kernel) (pa_cons (pe_fld (pe_ix ix_list (pv 1) (pv 0) (fun _ _ => rfl)) rfl) pa_nil)) (pa_cons (pv 0) pa_nil)))))), ?_⟩
    refine ⟨_, rfl, cl, zs xs, rfl, by rw [zs_nats]; exact hs, hT, fun n hn H2 e2 T2 => ?_, fun H2 ns p e2 T2 hp hperm hord => ?_⟩
    · obtain ⟨i, hi, rfl⟩ := List.mem_map.mp hn
      obtain ⟨a, dx, ha, hd⟩ := (S.ext e2).get (hb i hi)
      refine ⟨_, rfl, _, rfl, l, _, _, _, rfl, rfl, SqL.of (S.ext e2).lst, atI_nat (v := V.ref a) (by rw [List.getElem?_map, ha]; rfl), a, CS, dx, _, _, rfl, hd, T.cl, T.nP, shF_pos _, _, rfl, _, rfl, by show 2 ≤ sizeLine; decide, fun q hq => ⟨q, rfl, upd_same, ?_⟩⟩
      exact ⟨fun b o h _ => by rw [upd_ne (ne_of_none h hq)]; exact h, T2.ext fun b o h => by rw [upd_ne (ne_of_none h hq)]; exact h⟩
    · refine k _ p ?_ ?_ ?_
      · exact fun b o h z => by rw [upd_ne (ne_of_none (e2 b o h z) hp)]; exact e2 b o h z
      · exact T2.ext fun b o h => by rw [upd_ne (ne_of_none h hp)]; exact h
      · rw [upd_same, sorted_is st xs ns hx hperm hord]
end
end Br
end
section
set_option Elab.async false
set_option linter.all false
set_option maxRecDepth 100000
set_option maxHeartbeats 2000000
namespace Br
open PySem PySem.Spec PyProof.Rows L2 LamX NdefX BrK
/-! ### routes and begun routes in the heap -/
def RouteAt (H : Hp) (v : V) (r : List Nat) : Prop := ∃ a, v = .ref a ∧ H a = some (.lst (nats r))
abbrev RoutesAt (H : Hp) : List V → List (List Nat) → Prop := Paired (RouteAt H)
/-- a begun route, its list not at g -/
def BegAt (g : Addr) (H : Hp) (v : V) (t : Begun) : Prop := ∃ q r, v = .ref q ∧ H q = some (.tup [nv t.1, nv t.2.1, .ref r]) ∧ H r = some (.lst (nats t.2.2)) ∧ r ≠ g
theorem pair_imp {α β : Type} {F G : α → β → Prop} : ∀ {l : List α} {m : List β}, Paired F l m → (∀ a b, F a b → G a b) → Paired G l m
  | _, _, .nil, _ => .nil
  | _, _, .cons r t, f => .cons (f _ _ r) (pair_imp t f)
theorem pair_len {α β : Type} {F : α → β → Prop} : ∀ {l : List α} {m : List β}, Paired F l m → l.length = m.length
  | _, _, .nil => rfl
  | _, _, .cons _ t => congrArg (· + 1) (pair_len t)
theorem pair_get {α β : Type} {F : α → β → Prop} : ∀ {l : List α} {m : List β} {i : Nat} {x : α}, Paired F l m → l[i]? = some x → ∃ y, m[i]? = some y ∧ F x y
  | _, _, _, _, .nil, h => by simp at h
  | _, _, 0, x, .cons r t, h => by
    obtain rfl : _ = x := Option.some.inj h
    exact ⟨_, rfl, r⟩
  | _, _, i + 1, x, .cons r t, h => pair_get (i := i) t h
theorem pair_map {α β γ δ : Type} {F : α → β → Prop} {G : γ → δ → Prop} {f : α → γ} {h : β → δ} (k : ∀ a b, F a b → G (f a) (h b)) : ∀ {l : List α} {m : List β}, Paired F l m → Paired G (l.map f) (m.map h)
  | _, _, .nil => .nil
  | _, _, .cons r t => .cons (k _ _ r) (pair_map k t)
/-- what is known stays: but the list at g -/
def SameBut (g : Addr) (H H' : Hp) : Prop := ∀ b o, b ≠ g → H b = some o → H' b = some o
theorem BegAt.on {g : Addr} {H H' : Hp} {v : V} {t : Begun} (b : BegAt g H v t) (hg : ∀ xs, H g ≠ some (.tup xs)) (e : SameBut g H H') : BegAt g H' v t := by
  obtain ⟨q, r, h1, h2, h3, h4⟩ := b
  exact ⟨q, r, h1, e q _ (fun z => hg _ (by rw [← z]; exact h2)) h2, e r _ h4 h3, h4⟩
theorem BegAt.same {g : Addr} {H H' : Hp} {v : V} {t : Begun} (b : BegAt g H v t) (e : Same H H') : BegAt g H' v t := by
  obtain ⟨q, r, h1, h2, h3, h4⟩ := b
  exact ⟨q, r, h1, e q _ h2, e r _ h3, h4⟩
/-- one more begun route at the end of the list at g -/
theorem appended {H HB : Hp} {g p1 p2 p3 : Addr} {us ys : List V} {ts : List Begun} {o1 : HO} {t : Begun} {a b : V} (ha : a = nv t.1) (hb : b = nv t.2.1) (hy : ys = nats t.2.2) (hg : H g = some (.lst us)) (n1 : H p1 = none) (n2 : upd H p1 o1 p2 = none) (n3 : upd (upd H p1 o1) p2 (.lst ys) p3 = none)
    (P : Paired (BegAt g H) us ts) (sb : Same HB H) (nb : HB g = none) :
    Same HB (upd (upd (upd (upd H p1 o1) p2 (.lst ys)) p3 (.tup [a, b, .ref p2])) g (.lst (us ++ [.ref p3]))) ∧ Paired (BegAt g (upd (upd (upd (upd H p1 o1) p2 (.lst ys)) p3 (.tup [a, b, .ref p2])) g (.lst (us ++ [.ref p3])))) (us ++ [.ref p3]) (ts ++ [t]) := by
  subst ha hb hy
  have s3 : Same H (upd (upd (upd H p1 o1) p2 (.lst (nats t.2.2))) p3 (.tup [nv t.1, nv t.2.1, .ref p2])) := fun b o e => by
    have e1 : upd H p1 o1 b = some o := by rw [upd_ne (ne_of_none e n1)]; exact e
    have e2 : upd (upd H p1 o1) p2 (.lst (nats t.2.2)) b = some o := by rw [upd_ne (ne_of_none e1 n2)]; exact e1
    rw [upd_ne (ne_of_none e2 n3)]
    exact e2
  have g2 : p2 ≠ g := fun z => by
    rw [z] at n2
    have e1 : upd H p1 o1 g = some (.lst us) := by rw [upd_ne (ne_of_none hg n1)]; exact hg
    rw [e1] at n2
    cases n2
  have g3 : p3 ≠ g := fun z => by
    rw [z] at n3
    have e1 : upd H p1 o1 g = some (.lst us) := by rw [upd_ne (ne_of_none hg n1)]; exact hg
    rw [upd_ne (fun y => g2 y.symm), e1] at n3
    cases n3
  have p23 : p2 ≠ p3 := fun z => by
    rw [← z, upd_same] at n3
    cases n3
  generalize hX : upd (upd (upd H p1 o1) p2 (.lst (nats t.2.2))) p3 (.tup [nv t.1, nv t.2.1, .ref p2]) = X at s3 ⊢
  have a3 : X p3 = some (.tup [nv t.1, nv t.2.1, .ref p2]) := by rw [← hX]; exact upd_same
  have a2 : X p2 = some (.lst (nats t.2.2)) := by rw [← hX, upd_ne p23]; exact upd_same
  have sx : SameBut g H (upd X g (.lst (us ++ [.ref p3]))) := fun b o hb e => by rw [upd_ne hb]; exact s3 b o e
  refine ⟨fun b o e => sx b o (ne_of_none e nb) (sb b o e), Paired.snoc (pair_imp P fun a b z => z.on (fun xs y => by rw [hg] at y; cases y) sx) ⟨p3, p2, rfl, ?_, ?_, g2⟩⟩
  · rw [upd_ne g3]; exact a3
  · rw [upd_ne g2]; exact a2
/-! ### how many -/
theorem next1_len (L R : List Nat) (t : Begun) : (next1 L R t).length ≤ 2 := by
  unfold next1
  split <;> split <;> simp
theorem layer_len (L R : List Nat) : ∀ b : List Begun, (layer L R b).length ≤ 2 * b.length
  | [] => Nat.le_refl _
  | t :: b => by
    have h1 := layer_len L R b
    have h2 := next1_len L R t
    show ((t :: b).flatMap (next1 L R)).length ≤ _
    rw [List.flatMap_cons, List.length_append, List.length_cons]
    unfold layer at h1
    omega
theorem layers_len (L R : List Nat) : ∀ (k : Nat) (b : List Begun), (layers L R k b).length ≤ 2 ^ k * b.length
  | 0, b => by
    show b.length ≤ _
    simp
  | k + 1, b => by
    have h1 := layers_len L R k (layer L R b)
    have h2 := layer_len L R b
    have h3 : 2 ^ k * (layer L R b).length ≤ 2 ^ k * (2 * b.length) := Nat.mul_le_mul_left _ h2
    have h4 : 2 ^ (k + 1) * b.length = 2 ^ k * (2 * b.length) := by rw [Nat.pow_succ, Nat.mul_assoc]
    show (layers L R k (layer L R b)).length ≤ _
    omega
theorem layer_take (L R : List Nat) (b : List Begun) (j : Nat) (t : Begun) (h : b[j]? = some t) : layer L R (b.take (j + 1)) = layer L R (b.take j) ++ next1 L R t := by
  rw [List.take_add_one, h]
  unfold layer
  rw [List.flatMap_append]
  simp
/-- how long the routes are -/
theorem layers_route (L R : List Nat) : ∀ (k m : Nat) (b : List Begun), (∀ t ∈ b, t.2.2.length = m) → ∀ t ∈ layers L R k b, t.2.2.length = m + k
  | 0, m, b, h => h
  | k + 1, m, b, h => fun t ht => by
    have q := layers_route L R k (m + 1) (layer L R b) (fun u hu => by
      obtain ⟨v, hv, hm⟩ := List.mem_flatMap.mp hu
      have hl := h v hv
      unfold next1 at hm
      rcases List.mem_append.mp hm with z | z
      · split at z
        · obtain rfl := List.mem_singleton.mp z
          simp [hl]
        · cases z
      · split at z
        · obtain rfl := List.mem_singleton.mp z
          simp [hl]
        · cases z) t ht
    omega
end Br
end
section
set_option Elab.async false
set_option linter.all false
set_option maxRecDepth 100000
set_option maxHeartbeats 2000000
namespace Br
open PySem PySem.Spec PyProof.Rows L2 LamX NdefX BrK
abbrev sSw : Stmt := top 2
def spSw (K : PySem.W.Frag) (CS P : Addr) : Sp := fun vs H Q _ => ∃ (l c : Addr) (as : List Addr) (st : Sr100.Street) (xs : List Nat), vs = [.ref l, .ref c] ∧ ShopsAt CS H l as st.shops ∧ SqL K H c (nats xs) ∧ xs.Pairwise (· < ·) ∧ (∀ i ∈ xs, i < st.shops.length) ∧ xs.length ≤ 7 ∧ Tabs (TbL P) H ∧
  ∀ (H' : Hp) (p : Addr) (us : List V), ExtN H H' → Tabs (TbL P) H' → H' p = some (.lst us) → RoutesAt H' us (Sr100.sweepingRoutes st xs) → Q (.ref p) H'
section
variable {P : Program} {w : World} {K : PySem.W.Frag} {mg : Str → Option Value} {base : Heap} {CS Pt : Addr}
theorem scSw : FnScope ["shops", "chosen", "left", "right", "begun", "step", "longer", "lefts", "rights", "route", "i"] ["shops", "chosen"] (defScope sSw) := ⟨rfl, rfl, rfl, by decide +kernel, rfl, by decide +kernel, by decide +kernel⟩
theorem filter_take {α : Type} (p : α → Bool) (l : List α) (i : Nat) (x : α) (h : l[i]? = some x) : (l.take (i + 1)).filter p = (l.take i).filter p ++ (if p x = true then [x] else []) := by
  rw [List.take_add_one, h, List.filter_append]
  congr 1
  simp only [Option.toList, List.filter_cons, List.filter_nil]
/-- [i for i in chosen if ..]: told once for both sides -/
theorem lc_side {c D : Addr} {xs : List Nat} {H1 : Hp} {σ : L2.St} {Q : Hp → Prop} {te : TE} {tt : TT} {p : Nat → Bool} (hx7 : xs.length ≤ 7) (hs : SqL K H1 c (nats xs)) (hD : H1 D = none)
    (ht : ∀ (i : Nat) (σ2 : L2.St) (H : Hp) (R : Bool → Hp → Prop), i ∈ xs → Same H1 H → σ2[10]? = some (some (nv i)) → σ2[0]? = σ[0]? → R (p i) H → tt σ2 H R) (he : ∀ (v : V) (σ2 : L2.St) (H : Hp) (R : VK), σ2[10]? = some (some v) → R v H → te σ2 H R) (hlen : σ.length = 11)
    (k : ∀ H, Same H1 H → H D = some (.lst (nats (xs.filter p))) → Q H) :
    ∃ W : Nat → Nat → Hp → Prop, (∃ m, W 0 m (upd H1 D (.lst []))) ∧ ∀ i m H, W i m H →
      ((Itl K c).stop i H ∧ Q H) ∨ ((Itl K c).go i H ∧ ∃ Nx : Hp → Prop, (∀ H', Nx H' → ∃ m', m' < m ∧ W (i + 1) m' H') ∧ ∀ x H', (Itl K c).yld i H x H' → gName 10 x (wipe σ [10]) H' fun σ2 H2 => wipe σ2 [10] = wipe σ [10] ∧ tt σ2 H2 fun b H3 =>
        if b = true then te σ2 H3 fun y H4 => ∃ acc, H4 D = some (.lst acc) ∧ acc.length < sizeLine ∧ Nx (upd H4 D (.lst (acc ++ [y]))) else Nx H3) := by
  refine lc_list (K := K) (a := c) (xs := nats xs) (fun i H => Same H1 H ∧ H D = some (.lst (nats ((xs.take i).filter p)))) ⟨fun b o e => by rw [upd_ne (ne_of_none e hD)]; exact e, upd_same⟩ (fun i H _ h => h.1.seq hs) (fun i x H hi h => ?_) (fun H h => ?_)
  · obtain ⟨n, hn, rfl⟩ : ∃ n, xs[i]? = some n ∧ x = nv n := by
      unfold nats at hi
      rw [List.getElem?_map] at hi
      cases q : xs[i]? with
      | none => rw [q] at hi; cases hi
      | some n => rw [q] at hi; exact ⟨n, rfl, (Option.some.inj hi).symm⟩
    have hw : (wipe σ [10]).length = 11 := by rw [wipe_length]; exact hlen
    have g10 : ((wipe σ [10]).set 10 (some (nv n)))[10]? = some (some (nv n)) := List.getElem?_set_self (by omega)
    refine ⟨?_, ht n _ H _ (List.mem_of_getElem? hn) h.1 g10 ?_ ?_⟩
    · show ((σ.set 10 none).set 10 (some (nv n))).set 10 none = σ.set 10 none
      rw [List.set_set, List.set_set]
    · show ((σ.set 10 none).set 10 (some (nv n)))[0]? = σ[0]?
      rw [List.getElem?_set_ne (by decide), List.getElem?_set_ne (by decide)]
    · have hf := filter_take p xs i n hn
      cases hp : p n with
      | true =>
        rw [if_pos rfl]
        rw [hp, if_pos rfl] at hf
        refine he (nv n) _ H _ g10 ⟨_, h.2, ?_, fun b o e => ?_, ?_⟩
        · have h2 := List.length_filter_le p (xs.take i)
          have h3 := List.length_take_le i xs
          have h4 : i < xs.length := (List.getElem?_eq_some_iff.mp hn).1
          rw [List.length_take] at h2
          unfold nats
          rw [List.length_map]
          show _ < 16777216
          omega
        · rw [upd_ne (ne_of_none e hD)]; exact h.1 b o e
        · rw [upd_same, hf]
          unfold nats
          rw [List.map_append]
          rfl
      | false =>
        rw [if_neg Bool.false_ne_true]
        rw [hp, if_neg Bool.false_ne_true, List.append_nil] at hf
        exact ⟨h.1, by rw [hf]; exact h.2⟩
  · have e : (nats xs).length = xs.length := by unfold nats; rw [List.length_map]
    rw [e, List.take_length] at h
    exact k H h.1 h.2
end
end Br
end
section
set_option Elab.async false
set_option linter.all false
set_option maxRecDepth 100000
set_option maxHeartbeats 4000000
namespace Br
open PySem PySem.Spec PyProof.Rows L2 LamX NdefX BrK
def tPos (K : PySem.W.Frag) : TE := tFld K (tOp (rIxL K) (tVar 0) (tVar 10)) "position"
def tNeg (K : PySem.W.Frag) : TT := tTest (tOp (rI0 fun i j => .bl (decide (i < j))) (tPos K) (tC (.int 0)))
def tNon (K : PySem.W.Frag) : TT := tTest (tOp (rI0 fun i j => .bl (decide (j ≤ i))) (tPos K) (tC (.int 0)))
section
variable {P : Program} {w : World} {K : PySem.W.Frag} {mg : Str → Option Value} {base : Heap} {CS Pt : Addr}
theorem ok_sw {f fB : Addr} {fd fdB : FuncData} (F : Fun K "sweeping_routes" "sweeping_routes" sSw f fd) (T : TxtS K mg CS) (gR : mg "range" = none) (gL : mg "len" = none) (gB : mg "by_distance" = some (.ref fB)) (kB : PySem.W.keepIn K (.ref fB) = true)
    (GB : FnOk P w K mg base CX0 4 fB fdB ["shops", "chosen"] (spBy K CS Pt)) (bB : Binds K fdB ["shops", "chosen"] []) : FnOk P w K mg base CX0 5 f fd ["shops", "chosen"] (spSw K CS Pt) := by
  refine F.ok scSw (fun vs H Q E h => ?_) (fun cdv A outer s H vs Q E hr h => ?_)
  · obtain ⟨_, _, _, _, _, rfl, _⟩ := h
    rfl
  · obtain ⟨l, cl, as, st, xs, rfl, S, hs, hx, hb, h7, hT, k⟩ := h
    refine ⟨_, pss_cons (ps_set (i := 2) scSw.nd rfl (.inl rfl) (pe_call GB hr (by rfl) gB kB bB .nil pass0 (pa_cons (pv 0) (pa_cons
        (pe_lc (own := [("i", 10)]) (g := gName 10) (tt := tNeg K) (te := tVar 10) (by rfl) scSw.nd (pi_list (pv 1)) (blkOk_by (N := ["shops", "chosen", "left", "right", "begun", "step", "longer", "lefts", "rights", "route", "i"]) (sc := defScope sSw) (by decide +kernel)) (fun _ _ _ _ _ => pg_name (i := 10) scSw.nd rfl (.inl rfl))
          (fun _ _ _ _ _ => pts_one (pt_cmpR op_lt (pe_fld (pe_ix ix_list (pv 0) (pv 10) (fun _ _ => rfl)) rfl) pe_int (nomark _))) (fun _ _ _ _ _ => pv 10)) pa_nil))))
      (pss_cons (ps_set (i := 3) scSw.nd rfl (.inl rfl) (pe_call GB hr (by rfl) gB kB bB .nil pass0 (pa_cons (pv 0) (pa_cons
        (pe_lc (own := [("i", 10)]) (g := gName 10) (tt := tNon K) (te := tVar 10) (by rfl) scSw.nd (pi_list (pv 1)) (blkOk_by (N := ["shops", "chosen", "left", "right", "begun", "step", "longer", "lefts", "rights", "route", "i"]) (sc := defScope sSw) (by decide +kernel)) (fun _ _ _ _ _ => pg_name (i := 10) scSw.nd rfl (.inl rfl))
          (fun _ _ _ _ _ => pts_one (pt_cmpR op_ge (pe_fld (pe_ix ix_list (pv 0) (pv 10) (fun _ _ => rfl)) rfl) pe_int (nomark _))) (fun _ _ _ _ _ => pv 10)) pa_nil))))
      (pss_cons (ps_set (i := 4) scSw.nd rfl (.inl rfl) (pe_lst (pa_cons (pe_tup (pa_cons pe_int (pa_cons pe_int (pa_cons (pe_lst pa_nil) pa_nil)))) pa_nil)))
      (pss_cons (ps_for PassesOwn.never rfl (pi_range1 rfl gR (pa_cons (pe_callB call_len_seq (by rfl) gL PySem.boot_len (pa_cons (pv 1) pa_nil)) pa_nil)) (pg_name (i := 5) scSw.nd rfl (.inl rfl))
        (pss_cons (ps_set (i := 6) scSw.nd rfl (.inl rfl) (pe_lst pa_nil))
        (pss_cons (ps_for PassesOwn.never rfl (pi_list (pv 4)) (pg_tup rfl (pgs_cons (pg_name (i := 7) scSw.nd rfl (.inl rfl)) (pgs_cons (pg_name (i := 8) scSw.nd rfl (.inl rfl)) (pgs_cons (pg_name (i := 9) scSw.nd rfl (.inl rfl)) pgs_nil))))
          (pss_cons (ps_if (pt_cmpR op_lt (pv 7) (pe_callB call_len_seq (by rfl) gL PySem.boot_len (pa_cons (pv 2) pa_nil)) (nomark _))
            (pss_one (ps_expr (pe_bm PySem.F.plainAttrs_list PySem.F.slot_list_append PySem.F.type_list_append mt_append (pv 6) (pa_cons (pe_tup (pa_cons (pe_op op_add (pv 7) pe_int) (pa_cons (pv 8) (pa_cons (pe_op op_cat (pv 9) (pe_lst (pa_cons (pe_ix ix_list (pv 2) (pv 7) (fun _ _ => rfl)) pa_nil))) pa_nil)))) pa_nil)))) pss_nil)
          (pss_one (ps_if (pt_cmpR op_lt (pv 8) (pe_callB call_len_seq (by rfl) gL PySem.boot_len (pa_cons (pv 3) pa_nil)) (nomark _))
            (pss_one (ps_expr (pe_bm PySem.F.plainAttrs_list PySem.F.slot_list_append PySem.F.type_list_append mt_append (pv 6) (pa_cons (pe_tup (pa_cons (pv 7) (pa_cons (pe_op op_add (pv 8) pe_int) (pa_cons (pe_op op_cat (pv 9) (pe_lst (pa_cons (pe_ix ix_list (pv 3) (pv 8) (fun _ _ => rfl)) pa_nil))) pa_nil)))) pa_nil)))) pss_nil))))
        (pss_one (ps_set (i := 4) scSw.nd rfl (.inl rfl) (pv 6))))))
      (pss_one (ps_ret (pe_lc (own := [("lefts", 7), ("rights", 8), ("route", 9)]) (g := gTup K 3 (gCons (gName 7) (gCons (gName 8) (gCons (gName 9) gNil)))) (tt := tYes) (te := tVar 9) (by rfl) scSw.nd (pi_list (pv 4)) (blkOk_by (N := ["shops", "chosen", "left", "right", "begun", "step", "longer", "lefts", "rights", "route", "i"]) (sc := defScope sSw) (by decide +kernel))
        (fun _ _ _ _ _ => pg_tup rfl (pgs_cons (pg_name (i := 7) scSw.nd rfl (.inl rfl)) (pgs_cons (pg_name (i := 8) scSw.nd rfl (.inl rfl)) (pgs_cons (pg_name (i := 9) scSw.nd rfl (.inl rfl)) pgs_nil)))) (fun _ _ _ _ _ => pts_nil) (fun _ _ _ _ _ => pv 9))))))), ?_⟩
    have hpos : ∀ (H2 : Hp) (i : Nat) (σ2 : L2.St) (R : Bool → Hp → Prop), ExtN H H2 → i ∈ xs → σ2[10]? = some (some (nv i)) → σ2[0]? = some (some (V.ref l)) → R (decide ((Sr100.shopAt st i).position < 0)) H2 → tNeg K σ2 H2 R := fun H2 i σ2 R e2 hi h10 h0 q => by
      obtain ⟨a, dx, ha, hd⟩ := (S.ext e2).get (hb i hi)
      exact ⟨_, h0, _, h10, l, _, _, _, rfl, rfl, SqL.of (S.ext e2).lst, atI_nat (v := V.ref a) (by rw [List.getElem?_map, ha]; rfl), a, CS, dx, _, _, rfl, hd, T.cl, T.nP, shF_pos _, _, _, rfl, rfl, _, rfl, q⟩
    have hnon : ∀ (H2 : Hp) (i : Nat) (σ2 : L2.St) (R : Bool → Hp → Prop), ExtN H H2 → i ∈ xs → σ2[10]? = some (some (nv i)) → σ2[0]? = some (some (V.ref l)) → R (decide (0 ≤ (Sr100.shopAt st i).position)) H2 → tNon K σ2 H2 R := fun H2 i σ2 R e2 hi h10 h0 q => by
      obtain ⟨a, dx, ha, hd⟩ := (S.ext e2).get (hb i hi)
      exact ⟨_, h0, _, h10, l, _, _, _, rfl, rfl, SqL.of (S.ext e2).lst, atI_nat (v := V.ref a) (by rw [List.getElem?_map, ha]; rfl), a, CS, dx, _, _, rfl, hd, T.cl, T.nP, shF_pos _, _, _, rfl, rfl, _, rfl, q⟩
    -- left
    refine ⟨_, rfl, _, rfl, cl, rfl, ⟨_, hs⟩, fun D1 n1 => lc_side (p := fun i => decide ((Sr100.shopAt st i).position < 0)) h7 hs n1 (fun i σ2 H2 R hi e2 h10 h0 q => hpos H2 i σ2 R (.of e2) hi h10 (h0.trans rfl) q) (fun v σ2 H2 R h10 q => ⟨v, h10, q⟩) rfl fun H2 e2 hD => ?_⟩
    refine ⟨l, D1, as, st, _, rfl, S.ext (.of e2), SqL.of hD, hx.filter _, fun i hi => hb i (List.mem_filter.mp hi).1, hT.ext e2, fun H3 pL e3 T3 hL => ?_⟩
    have E3 : ExtN H H3 := (ExtN.of e2).trans e3
    -- right
    refine ⟨_, rfl, _, rfl, cl, rfl, ⟨_, sq_ext hs E3⟩, fun D2 n2 => lc_side (p := fun i => decide (0 ≤ (Sr100.shopAt st i).position)) h7 (sq_ext hs E3) n2 (fun i σ2 H2 R hi e2 h10 h0 q => hnon H2 i σ2 R (E3.trans (.of e2)) hi h10 (h0.trans rfl) q) (fun v σ2 H2 R h10 q => ⟨v, h10, q⟩) rfl fun H4 e4 hD2 => ?_⟩
    refine ⟨l, D2, as, st, _, rfl, S.ext (E3.trans (.of e4)), SqL.of hD2, hx.filter _, fun i hi => hb i (List.mem_filter.mp hi).1, T3.ext e4, fun H5 pR e5 T5 hR => ?_⟩
    have E5 : ExtN H H5 := (E3.trans (.of e4)).trans e5
    have hL5 : H5 pL = some (.lst (nats (Sr100.sortByDistance st (xs.filter fun i => decide ((Sr100.shopAt st i).position < 0))))) := e5 _ _ (e4 _ _ hL) fun ps z => by cases z
    -- begun
    refine ⟨Nat.zero_le _, fun q0 m0 => ⟨by show 3 ≤ 16777216; decide, fun q1 m1 => ⟨by show 1 ≤ 16777216; decide, fun b0 m2 => ?_⟩⟩⟩
    have q01 : q0 ≠ q1 := fun z => by rw [z, upd_same] at m1; cases m1
    have q0b : q0 ≠ b0 := fun z => by rw [← z, upd_ne q01, upd_same] at m2; cases m2
    have q1b : q1 ≠ b0 := fun z => by rw [← z, upd_same] at m2; cases m2
    have s6 : Same H5 (upd (upd (upd H5 q0 (.lst [])) q1 (.tup [.int 0, .int 0, .ref q0])) b0 (.lst [.ref q1])) := fun b o e => by
      have e1 : upd H5 q0 (.lst []) b = some o := by rw [upd_ne (ne_of_none e m0)]; exact e
      have e2 : upd (upd H5 q0 (.lst [])) q1 (.tup [.int 0, .int 0, .ref q0]) b = some o := by rw [upd_ne (ne_of_none e1 m1)]; exact e1
      rw [upd_ne (ne_of_none e2 m2)]
      exact e2
    have b6 : upd (upd (upd H5 q0 (.lst [])) q1 (.tup [.int 0, .int 0, .ref q0])) b0 (.lst [.ref q1]) b0 = some (.lst [.ref q1]) := upd_same
    have B6 : BegAt b0 (upd (upd (upd H5 q0 (.lst [])) q1 (.tup [.int 0, .int 0, .ref q0])) b0 (.lst [.ref q1])) (.ref q1) (0, 0, []) := ⟨q1, q0, rfl, by rw [upd_ne q1b]; exact upd_same, by rw [upd_ne q0b, upd_ne q01]; exact upd_same, q0b⟩
    generalize upd (upd (upd H5 q0 (.lst [])) q1 (.tup [.int 0, .int 0, .ref q0])) b0 (.lst [.ref q1]) = H6 at s6 b6 B6 ⊢
    have E6 : ExtN H H6 := E5.trans (.of s6)
    have L6 : SqL K H6 pL _ := SqL.of (s6 _ _ hL5)
    have R6 : SqL K H6 pR _ := SqL.of (s6 _ _ hR)
    have h7' : (nats xs).length ≤ 7 := by unfold nats; rw [List.length_map]; exact h7
    have hsw : Sr100.sweepingRoutes st xs = Sr100.mergings xs.length (Sr100.sortByDistance st (xs.filter fun i => decide ((Sr100.shopAt st i).position < 0))) (Sr100.sortByDistance st (xs.filter fun i => decide (0 ≤ (Sr100.shopAt st i).position))) := rfl
    generalize Sr100.sortByDistance st (xs.filter fun i => decide ((Sr100.shopAt st i).position < 0)) = L at L6 hsw
    generalize Sr100.sortByDistance st (xs.filter fun i => decide (0 ≤ (Sr100.shopAt st i).position)) = R at R6 hsw
    -- for step in range(len(chosen))
    refine ⟨_, rfl, cl, nats xs, rfl, .inl (sq_ext hs E6), _, rfl, by omega, by omega, for_range (lo := 0) (n := (nats xs).length) (fun i σ H' => ∃ (b : Addr) (vs : List V) (o5 o6 o7 o8 o9 : Option V), σ = [some (.ref l), some (.ref cl), some (.ref pL), some (.ref pR), some (.ref b), o5, o6, o7, o8, o9, none] ∧
      Same H6 H' ∧ H' b = some (.lst vs) ∧ Paired (BegAt b H') vs (layers L R i [(0, 0, [])])) ⟨b0, _, _, _, _, _, _, rfl, Same.refl _, b6, .cons B6 .nil⟩ ?_ ?_⟩
    · rintro i σ H' hi ⟨b, vs, o5, o6, o7, o8, o9, rfl, s7, hbl, hP⟩
      have hts : (layers L R i [(0, 0, [])]).length ≤ 128 := by
        have q := layers_len L R i [(0, 0, [])]
        have q2 : (2 : Nat) ^ i ≤ 2 ^ 7 := Nat.pow_le_pow_right (by decide) (by omega)
        simp only [List.length_singleton, Nat.mul_one] at q
        omega
      have hrt := layers_route L R i 0 [(0, 0, [])] (by simp)
      generalize hts' : layers L R i [(0, 0, [])] = ts at hP hts hrt
      -- longer = []
      refine ⟨Nat.zero_le _, fun g mg => ?_⟩
      have bg : b ≠ g := ne_of_none hbl mg
      have s8 : Same H' (upd H' g (.lst [])) := fun c o e => by rw [upd_ne (ne_of_none e mg)]; exact e
      refine ⟨_, rfl, b, rfl, ⟨_, SqL.of (s8 _ _ hbl)⟩, for_list (K := K) (a := b) (xs := vs) (fun j σ Hj => ∃ (us : List V) (o7 o8 o9 : Option V), σ = [some (.ref l), some (.ref cl), some (.ref pL), some (.ref pR), some (.ref b), some (.int (0 + (i : Int))), some (.ref g), o7, o8, o9, none] ∧
        Same H' Hj ∧ Hj g = some (.lst us) ∧ Paired (BegAt g Hj) us (layer L R (ts.take j))) ⟨[], _, _, _, rfl, s8, upd_same, .nil⟩ (fun j σ Hj _ ⟨_, _, _, _, _, z, _⟩ => SqL.of (z _ _ hbl)) ?_ ?_⟩
      · rintro j x σ Hj hj ⟨us, o7, o8, o9, rfl, sj, gj, Pj⟩
        obtain ⟨t, ht, q, r, rfl, hq, hr', _⟩ := pair_get hP hj
        obtain ⟨lf, rt, route⟩ := t
        have hjl : j < ts.length := (List.getElem?_eq_some_iff.mp ht).1
        have hlen : (layer L R (ts.take j)).length ≤ 256 := by
          have z := layer_len L R (ts.take j)
          rw [List.length_take] at z
          omega
        have hus := pair_len Pj
        have hro : route.length ≤ 7 := by
          have z := hrt _ (List.mem_of_getElem? ht)
          have z' : route.length = 0 + i := z
          omega
        have hrl : (nats route).length ≤ 7 := by unfold nats; rw [List.length_map]; exact hro
        have eL : (nats L).length = L.length := by unfold nats; rw [List.length_map]
        have eR : (nats R).length = R.length := by unfold nats; rw [List.length_map]
        have hlt := layer_take L R ts j _ ht
        refine ⟨q, _, rfl, SqT.of (sj _ _ hq), rfl, _, _, rfl, _, _, rfl, _, _, rfl, rfl, ?_⟩
        refine ⟨_, rfl, _, rfl, pL, _, rfl, .inl (sq_ext L6 (.of (s7.trans sj))), _, _, rfl, rfl, _, rfl, ?_⟩
        have sz : ∀ n : Nat, n ≤ 1000 → n < sizeLine := fun n z => Nat.lt_of_le_of_lt z (by decide)
        have sz' : ∀ n : Nat, n ≤ 1000 → n ≤ sizeLine := fun n z => Nat.le_of_lt (sz n z)
        have cat : ∀ (x : Nat), nats route ++ [nv x] = nats (route ++ [x]) := fun x => by unfold nats; rw [List.map_append]; rfl
        have at_ : ∀ (M : List Nat) (m : Nat), m < M.length → (nats M)[m]? = some (nv (M.getD m 0)) := fun M m c => by
          unfold nats
          rw [List.getElem?_map, List.getElem?_eq_getElem c, List.getD_eq_getElem?_getD, List.getElem?_eq_getElem c]
          rfl
        have e0 : layer L R (ts.take (j + 1)) = layer L R (ts.take j) ++ ((if lf < L.length then [(lf + 1, rt, route ++ [L.getD lf 0])] else []) ++ (if rt < R.length then [(lf, rt + 1, route ++ [R.getD rt 0])] else [])) := hlt
        -- what the turn on the left leaves
        refine ite2 (fun c1 => ?_) (fun c1 => ?_)
        · have c1' : lf < L.length := by
            have z := of_decide_eq_true c1
            omega
          rw [if_pos c1', ← List.append_assoc] at e0
          refine ⟨_, rfl, .inl ⟨rfl, _, SqL.of gj⟩, _, rfl, _, _, rfl, rfl, _, rfl, _, rfl, _, rfl, _, rfl, pL, _, _, _, rfl, rfl, sq_ext L6 (.of (s7.trans sj)), atI_nat (at_ L lf c1'), sz' 1 (by decide), fun p1 n1 => ⟨r, p1, nats route, [nv (L.getD lf 0)], rfl, rfl, by rw [upd_ne (ne_of_none (sj _ _ hr') n1)]; exact sj _ _ hr', upd_same,
            sz' _ (by rw [List.length_singleton]; omega), fun p2 n2 => ⟨sz' 3 (by decide), fun p3 n3 => ?_⟩⟩⟩
          obtain ⟨sX, PX⟩ := appended (a := .int ((lf : Int) + 1)) (b := nv rt) (t := (lf + 1, rt, route ++ [L.getD lf 0])) rfl rfl (cat _) gj n1 n2 n3 Pj sj mg
          have p3g : g ≠ p3 := fun z => by
            rw [← z] at n3
            have z1 : upd Hj p1 (.lst [nv (L.getD lf 0)]) g = some (.lst us) := by rw [upd_ne (ne_of_none gj n1)]; exact gj
            rw [upd_ne (ne_of_none z1 n2), z1] at n3
            cases n3
          have g5 : upd (upd (upd Hj p1 (.lst [nv (L.getD lf 0)])) p2 (.lst (nats route ++ [nv (L.getD lf 0)]))) p3 (.tup [.int ((lf : Int) + 1), nv rt, .ref p2]) g = some (.lst us) := by
            have z1 : upd Hj p1 (.lst [nv (L.getD lf 0)]) g = some (.lst us) := by rw [upd_ne (ne_of_none gj n1)]; exact gj
            rw [upd_ne p3g, upd_ne (ne_of_none z1 n2)]
            exact z1
          refine ⟨g, us, _, rfl, rfl, g5, sz _ (by omega), ?_⟩
          have gX : upd (upd (upd (upd Hj p1 (.lst [nv (L.getD lf 0)])) p2 (.lst (nats route ++ [nv (L.getD lf 0)]))) p3 (.tup [.int ((lf : Int) + 1), nv rt, .ref p2])) g (.lst (us ++ [.ref p3])) g = some (.lst (us ++ [.ref p3])) := upd_same
          have l1 : (us ++ [V.ref p3]).length ≤ 300 := by rw [List.length_append, List.length_singleton]; omega
          generalize us ++ [V.ref p3] = u1 at sX PX gX l1 ⊢
          generalize upd (upd (upd (upd Hj p1 (.lst [nv (L.getD lf 0)])) p2 (.lst (nats route ++ [nv (L.getD lf 0)]))) p3 (.tup [.int ((lf : Int) + 1), nv rt, .ref p2])) g (.lst u1) = X at sX PX gX ⊢
          clear g5 p3g n3 n2 n1
          generalize layer L R (ts.take j) ++ [(lf + 1, rt, route ++ [L.getD lf 0])] = ts1 at e0 PX
          refine ⟨_, rfl, _, rfl, pR, _, rfl, .inl (sq_ext R6 (.of (s7.trans sX))), _, _, rfl, rfl, _, rfl, ?_⟩
          refine ite2 (fun c2 => ?_) (fun c2 => ?_)
          · have c2' : rt < R.length := by
              have z : ((rt : Nat) : Int) < ((nats R).length : Int) := of_decide_eq_true c2
              omega
            rw [if_pos c2'] at e0
            refine ⟨_, rfl, .inl ⟨rfl, _, SqL.of gX⟩, _, rfl, _, rfl, _, _, rfl, rfl, _, rfl, _, rfl, _, rfl, pR, _, _, _, rfl, rfl, sq_ext R6 (.of (s7.trans sX)), atI_nat (at_ R rt c2'), sz' 1 (by decide), fun p1 n1 => ⟨r, p1, nats route, [nv (R.getD rt 0)], rfl, rfl, by rw [upd_ne (ne_of_none (sX _ _ hr') n1)]; exact sX _ _ hr', upd_same,
              sz' _ (by rw [List.length_singleton]; omega), fun p2 n2 => ⟨sz' 3 (by decide), fun p3 n3 => ?_⟩⟩⟩
            obtain ⟨sY, PY⟩ := appended (a := nv lf) (b := .int ((rt : Int) + 1)) (t := (lf, rt + 1, route ++ [R.getD rt 0])) rfl rfl (cat _) gX n1 n2 n3 PX sX mg
            have z1 : upd X p1 (.lst [nv (R.getD rt 0)]) g = some (.lst u1) := by rw [upd_ne (ne_of_none gX n1)]; exact gX
            have z2 : upd (upd X p1 (.lst [nv (R.getD rt 0)])) p2 (.lst (nats route ++ [nv (R.getD rt 0)])) g = some (.lst u1) := by rw [upd_ne (ne_of_none z1 n2)]; exact z1
            refine ⟨g, u1, _, rfl, rfl, by rw [upd_ne (ne_of_none z2 n3)]; exact z2, sz _ (by omega), ?_⟩
            exact ⟨_, _, _, _, rfl, sY, upd_same, by rw [e0]; exact PY⟩
          · have c2' : ¬ rt < R.length := fun z => c2 (decide_eq_true (show ((rt : Nat) : Int) < ((nats R).length : Int) by omega))
            rw [if_neg c2', List.append_nil] at e0
            exact ⟨u1, _, _, _, rfl, sX, gX, by rw [e0]; exact PX⟩
        · have c1' : ¬ lf < L.length := fun z => c1 (decide_eq_true (by omega))
          rw [if_neg c1', List.nil_append] at e0
          have l1 : us.length ≤ 300 := by omega
          generalize layer L R (ts.take j) = ts1 at e0 Pj
          refine ⟨_, rfl, _, rfl, pR, _, rfl, .inl (sq_ext R6 (.of (s7.trans sj))), _, _, rfl, rfl, _, rfl, ?_⟩
          refine ite2 (fun c2 => ?_) (fun c2 => ?_)
          · have c2' : rt < R.length := by
              have z : ((rt : Nat) : Int) < ((nats R).length : Int) := of_decide_eq_true c2
              omega
            rw [if_pos c2'] at e0
            refine ⟨_, rfl, .inl ⟨rfl, _, SqL.of gj⟩, _, rfl, _, rfl, _, _, rfl, rfl, _, rfl, _, rfl, _, rfl, pR, _, _, _, rfl, rfl, sq_ext R6 (.of (s7.trans sj)), atI_nat (at_ R rt c2'), sz' 1 (by decide), fun p1 n1 => ⟨r, p1, nats route, [nv (R.getD rt 0)], rfl, rfl, by rw [upd_ne (ne_of_none (sj _ _ hr') n1)]; exact sj _ _ hr', upd_same,
              sz' _ (by rw [List.length_singleton]; omega), fun p2 n2 => ⟨sz' 3 (by decide), fun p3 n3 => ?_⟩⟩⟩
            obtain ⟨sY, PY⟩ := appended (a := nv lf) (b := .int ((rt : Int) + 1)) (t := (lf, rt + 1, route ++ [R.getD rt 0])) rfl rfl (cat _) gj n1 n2 n3 Pj sj mg
            have z1 : upd Hj p1 (.lst [nv (R.getD rt 0)]) g = some (.lst us) := by rw [upd_ne (ne_of_none gj n1)]; exact gj
            have z2 : upd (upd Hj p1 (.lst [nv (R.getD rt 0)])) p2 (.lst (nats route ++ [nv (R.getD rt 0)])) g = some (.lst us) := by rw [upd_ne (ne_of_none z1 n2)]; exact z1
            refine ⟨g, us, _, rfl, rfl, by rw [upd_ne (ne_of_none z2 n3)]; exact z2, sz _ (by omega), ?_⟩
            exact ⟨_, _, _, _, rfl, sY, upd_same, by rw [e0]; exact PY⟩
          · have c2' : ¬ rt < R.length := fun z => c2 (decide_eq_true (show ((rt : Nat) : Int) < ((nats R).length : Int) by omega))
            rw [if_neg c2', List.append_nil] at e0
            exact ⟨us, _, _, _, rfl, sj, gj, by rw [e0]; exact Pj⟩
      · rintro σ Hj ⟨us, o7, o8, o9, rfl, sj, gj, Pj⟩
        -- begun = longer
        refine ⟨_, rfl, g, us, _, _, _, _, _, rfl, s7.trans sj, gj, ?_⟩
        rw [layers_succ, hts']
        have z := pair_len hP
        rw [z, List.take_length] at Pj
        exact Pj
    · rintro σ H' ⟨b, vs, o5, o6, o7, o8, o9, rfl, s7, hbl, hP⟩
      -- the routes alone
      refine ⟨_, rfl, b, rfl, ⟨_, SqL.of hbl⟩, fun D nD => lc_list (K := K) (a := b) (xs := vs) (fun i Hi => Same H' Hi ∧ ∃ acc, Hi D = some (.lst acc) ∧ Paired (RouteAt H') acc (((layers L R (nats xs).length [(0, 0, [])]).take i).map (·.2.2))) ⟨fun c o e => by rw [upd_ne (ne_of_none e nD)]; exact e, [], upd_same, .nil⟩ (fun i Hi _ h => SqL.of (h.1 _ _ hbl)) (fun i x Hi hi h => ?_) fun Hi h => ?_⟩
      · obtain ⟨t, ht, q, r, rfl, hq, hr', _⟩ := pair_get hP hi
        obtain ⟨sH, acc, hD, hA⟩ := h
        refine ⟨q, _, rfl, SqT.of (sH _ _ hq), rfl, _, _, rfl, _, _, rfl, _, _, rfl, rfl, rfl, ?_⟩
        unfold tYes
        refine iteT ?_
        have hl : acc.length ≤ 1000 := by
          have z1 := pair_len hA
          have z2 := layers_len L R (nats xs).length [(0, 0, [])]
          have z3 : (2 : Nat) ^ (nats xs).length ≤ 2 ^ 7 := Nat.pow_le_pow_right (by decide) h7'
          simp only [List.length_singleton, Nat.mul_one] at z2
          rw [List.length_map, List.length_take] at z1
          omega
        refine ⟨.ref r, rfl, acc, hD, Nat.lt_of_le_of_lt hl (by decide), fun c o e => by rw [upd_ne (ne_of_none e nD)]; exact sH _ _ e, acc ++ [.ref r], upd_same, ?_⟩
        rw [List.take_add_one, ht]
        show Paired _ _ (((layers L R (nats xs).length [(0, 0, [])]).take i ++ [t]).map (·.2.2))
        rw [List.map_append]
        exact Paired.snoc hA ⟨r, rfl, hr'⟩
      · obtain ⟨sH, acc, hD, hA⟩ := h
        rw [pair_len hP, List.take_length, layers_all] at hA
        have e7 : (nats xs).length = xs.length := by unfold nats; rw [List.length_map]
        rw [e7, ← hsw] at hA
        exact k Hi D acc (E6.trans (.of (s7.trans sH))) (T5.ext fun c o e => sH _ _ (s7 _ _ (s6 _ _ e))) hD (pair_imp hA fun a r ⟨p, e1, e2⟩ => ⟨p, e1, sH _ _ e2⟩)
end
end Br
end
section
set_option Elab.async false
set_option linter.all false
set_option maxRecDepth 100000
set_option maxHeartbeats 4000000
namespace Br
open PySem PySem.Spec PyProof.Rows L2 LamX NdefX BrK
/-! ### times_along -/
abbrev sTi : Stmt := top 3
/-- the arrival times from a place and a time on, the loop's way -/
theorem arr_take (st : Sr100.Street) : ∀ (route : List Nat) (p : Int) (t : Nat), (Sr100.arrivalTimesFrom st route p t).length = route.length
  | [], _, _ => rfl
  | i :: r, p, t => congrArg (· + 1) (arr_take st r _ _)
def spTi (K : PySem.W.Frag) (CS P : Addr) : Sp := fun vs H Q _ => ∃ (l c : Addr) (as : List Addr) (st : Sr100.Street) (xs : List Nat), vs = [.ref l, .ref c, nv st.departure] ∧ ShopsAt CS H l as st.shops ∧ SqL K H c (nats xs) ∧ (∀ i ∈ xs, i < st.shops.length) ∧ xs.length ≤ 1000 ∧
  ∀ (H' : Hp) (p : Addr), Same H H' → H p = none → H' p = some (.lst (nats (Sr100.arrivalTimes st xs))) → Q (.ref p) H'
section
variable {P : Program} {w : World} {K : PySem.W.Frag} {mg : Str → Option Value} {base : Heap} {CS Pt : Addr}
theorem nats_get {xs : List Nat} {i : Nat} {x : V} (h : (nats xs)[i]? = some x) : ∃ n, xs[i]? = some n ∧ x = nv n := by
  unfold nats at h
  rw [List.getElem?_map] at h
  cases q : xs[i]? with
  | none => rw [q] at h; cases h
  | some n => rw [q] at h; exact ⟨n, rfl, (Option.some.inj h).symm⟩
theorem nats_at {xs : List Nat} {i n : Nat} (h : xs[i]? = some n) : (nats xs)[i]? = some (nv n) := by
  unfold nats
  rw [List.getElem?_map, h]
  rfl
theorem nats_len (xs : List Nat) : (nats xs).length = xs.length := by unfold nats; rw [List.length_map]
theorem scTi : FnScope ["shops", "route", "departure", "times", "now", "place", "i"] ["shops", "route", "departure"] (defScope sTi) := ⟨rfl, rfl, rfl, by decide +kernel, rfl, by decide +kernel, by decide +kernel⟩
theorem dist_eq (a b : Int) : (if a - b < 0 then -(a - b) else a - b) = ((Sr100.distance b a : Nat) : Int) := by
  unfold Sr100.distance
  split <;> omega
theorem ok_ti {f : Addr} {fd : FuncData} (F : Fun K "times_along" "times_along" sTi f fd) (T : TxtS K mg CS) (gA : mg "abs" = none) : FnOk P w K mg base CX0 1 f fd ["shops", "route", "departure"] (spTi K CS Pt) := by
  refine F.ok scTi (fun vs H Q E h => ?_) (fun cdv A outer s H vs Q E hr h => ?_)
  · obtain ⟨_, _, _, _, _, rfl, _⟩ := h
    rfl
  · obtain ⟨l, c, as, st, xs, rfl, S, hs, hb, h7, k⟩ := h
    refine ⟨_, pss_cons (ps_set (i := 3) scTi.nd rfl (.inl rfl) (pe_lst pa_nil))
      (pss_cons (ps_set (i := 4) scTi.nd rfl (.inl rfl) (pv 2))
      (pss_cons (ps_set (i := 5) scTi.nd rfl (.inl rfl) pe_int)
      (pss_cons (ps_for PassesOwn.never rfl (pi_list (pv 1)) (pg_name (i := 6) scTi.nd rfl (.inl rfl))
        (pss_cons (ps_aug (i := 4) scTi.nd rfl (.inl rfl) (pe_callB call_abs (by rfl) gA (by decide +kernel) (pa_cons (pe_op op_sub (pe_fld (pe_ix ix_list (pv 0) (pv 6) (fun _ _ => rfl)) rfl) (pv 5)) pa_nil)) ip_add)
        (pss_cons (ps_set (i := 5) scTi.nd rfl (.inl rfl) (pe_fld (pe_ix ix_list (pv 0) (pv 6) (fun _ _ => rfl)) rfl))
        (pss_one (ps_expr (pe_bm PySem.F.plainAttrs_list PySem.F.slot_list_append PySem.F.type_list_append mt_append (pv 3) (pa_cons (pv 4) pa_nil)))))))
      (pss_one (ps_ret (pv 3)))))), ?_⟩
    refine ⟨Nat.zero_le _, fun p np => ?_⟩
    have s1 : Same H (upd H p (.lst [])) := fun b o e => by rw [upd_ne (ne_of_none e np)]; exact e
    refine ⟨_, rfl, ?_⟩
    refine ⟨_, rfl, c, rfl, ⟨_, s1.seq hs⟩, for_list (K := K) (a := c) (xs := nats xs) (fun i σ H' => ∃ (now : Nat) (place : Int) (o6 : Option V) (pre : List Nat), σ = [some (.ref l), some (.ref c), some (nv st.departure), some (.ref p), some (nv now), some (.int place), o6] ∧
      Same H H' ∧ H' p = some (.lst (nats pre)) ∧ pre.length = i ∧ Sr100.arrivalTimes st xs = pre ++ Sr100.arrivalTimesFrom st (xs.drop i) place now) ⟨st.departure, 0, _, [], rfl, s1, upd_same, rfl, rfl⟩ (fun i σ H' _ ⟨_, _, _, _, _, z, _⟩ => z.seq hs) ?_ ?_⟩
    · rintro i x σ H' hi ⟨now, place, o6, pre, rfl, sH, hp, hl, he⟩
      obtain ⟨n, hn, rfl⟩ := nats_get hi
      obtain ⟨a, dx, ha, hd⟩ := (S.ext (.of sH)).get (hb n (List.mem_of_getElem? hn))
      have hA : atI (as.map V.ref) (n : Int) = some (.ref a) := atI_nat (by rw [List.getElem?_map, ha]; rfl)
      have hL : SqL K H' l (as.map V.ref) := SqL.of (S.ext (.of sH)).lst
      have hil : i < xs.length := (List.getElem?_eq_some_iff.mp hn).1
      have hdr : xs.drop i = n :: xs.drop (i + 1) := by
        rw [List.drop_eq_getElem_cons hil]
        rw [List.getElem?_eq_getElem hil] at hn
        rw [Option.some.inj hn]
      rw [hdr] at he
      refine ⟨_, rfl, _, rfl, _, rfl, l, _, _, _, rfl, rfl, hL, hA, a, CS, dx, _, _, rfl, hd, T.cl, T.nP, shF_pos _, _, rfl, _, _, rfl, rfl, _, rfl, _, _, rfl, rfl, ?_⟩
      refine ⟨_, rfl, _, rfl, l, _, _, _, rfl, rfl, hL, hA, a, CS, dx, _, _, rfl, hd, T.cl, T.nP, shF_pos _, ?_⟩
      refine ⟨_, rfl, .inl ⟨rfl, _, SqL.of hp⟩, _, rfl, p, _, _, rfl, rfl, hp, ?_, ?_⟩
      · rw [nats_len, hl]
        exact Nat.lt_of_lt_of_le (Nat.lt_of_lt_of_le hil h7) (by decide)
      · rw [dist_eq]
        refine ⟨now + Sr100.distance place (Sr100.shopAt st n).position, (Sr100.shopAt st n).position, _, pre ++ [now + Sr100.distance place (Sr100.shopAt st n).position], rfl, fun b o e => ?_, ?_, by rw [List.length_append, hl]; rfl, ?_⟩
        · rw [upd_ne (ne_of_none e np)]; exact sH b o e
        · rw [upd_same]
          unfold nats
          rw [List.map_append]
          rfl
        · rw [he, List.append_assoc]
          rfl
    · rintro σ H' ⟨now, place, o6, pre, rfl, sH, hp, hl, he⟩
      refine ⟨_, rfl, ?_⟩
      rw [nats_len, List.drop_length] at he
      have e2 : Sr100.arrivalTimes st xs = pre := by rw [he]; exact List.append_nil _
      exact k H' p sH np (by rw [e2]; exact hp)
/-! ### is_on_time -/
abbrev sOn : Stmt := top 4
def spOn (K : PySem.W.Frag) (CS P : Addr) : Sp := fun vs H Q _ => ∃ (l c d : Addr) (as : List Addr) (st : Sr100.Street) (xs : List Nat), vs = [.ref l, .ref c, .ref d] ∧ ShopsAt CS H l as st.shops ∧ SqL K H c (nats xs) ∧ SqL K H d (nats (Sr100.arrivalTimes st xs)) ∧ (∀ i ∈ xs, i < st.shops.length) ∧
  ∀ (H' : Hp), Same H H' → Q (.bl (Sr100.isOnTime st xs)) H'
theorem scOn : FnScope ["shops", "route", "times", "i", "arrival"] ["shops", "route", "times"] (defScope sOn) := ⟨rfl, rfl, rfl, by decide +kernel, rfl, by decide +kernel, by decide +kernel⟩
theorem ok_on {f : Addr} {fd : FuncData} (F : Fun K "is_on_time" "is_on_time" sOn f fd) (T : TxtS K mg CS) (gZ : mg "zip" = none) : FnOk P w K mg base CX0 1 f fd ["shops", "route", "times"] (spOn K CS Pt) := by
  refine F.ok scOn (fun vs H Q E h => ?_) (fun cdv A outer s H vs Q E hr h => ?_)
  · obtain ⟨_, _, _, _, _, _, rfl, _⟩ := h
    rfl
  · obtain ⟨l, c, d, as, st, xs, rfl, S, hs, ht, hb, k⟩ := h
    refine ⟨_, pss_cons (ps_for PassesOwn.never rfl (pi_zip (by rfl) gZ (pa_cons (pv 1) (pa_cons (pv 2) pa_nil))) (pg_tup rfl (pgs_cons (pg_name (i := 3) scOn.nd rfl (.inl rfl)) (pgs_cons (pg_name (i := 4) scOn.nd rfl (.inl rfl)) pgs_nil)))
        (pss_one (ps_if (pt_cmpR op_gt (pv 4) (pe_fld (pe_ix ix_list (pv 0) (pv 3) (fun _ _ => rfl)) rfl) (nomark _)) (pss_one (ps_ret pe_bl)) pss_nil)))
      (pss_one (ps_ret pe_bl)), ?_⟩
    have hl : (nats xs).length = (nats (Sr100.arrivalTimes st xs)).length := by rw [nats_len, nats_len]; exact (arr_take st xs _ _).symm
    refine ⟨_, rfl, _, rfl, c, d, _, _, rfl, hs, ht, RZ.for_zipL (K := K) (a := c) (b := d) (xs := nats xs) (ys := nats (Sr100.arrivalTimes st xs)) hl (fun i σ H' => ∃ o3 o4 : Option V, σ = [some (.ref l), some (.ref c), some (.ref d), o3, o4] ∧ Same H H' ∧ ∀ y ∈ (xs.zip (Sr100.arrivalTimes st xs)).take i, y.2 ≤ (Sr100.shopAt st y.1).deadline)
      ⟨_, _, rfl, Same.refl _, fun y hy => by simp at hy⟩ (fun i σ H' ⟨_, _, _, z, _⟩ => ⟨z.seq hs, z.seq ht⟩) ?_ ?_⟩
    · rintro i x y q σ H' hx hy ⟨o3, o4, rfl, sH, hA⟩ nq
      obtain ⟨n, hn, rfl⟩ := nats_get hx
      obtain ⟨t, hT, rfl⟩ := nats_get hy
      have sq : Same H (upd H' q (.tup [nv n, nv t])) := fun b o e => by rw [upd_ne (ne_of_none (sH b o e) nq)]; exact sH b o e
      obtain ⟨a, dx, ha, hd⟩ := (S.ext (.of sq)).get (hb n (List.mem_of_getElem? hn))
      have hz : (xs.zip (Sr100.arrivalTimes st xs))[i]? = some (n, t) := List.getElem?_zip_eq_some.mpr ⟨hn, hT⟩
      refine ⟨q, _, rfl, SqT.of upd_same, rfl, _, _, rfl, _, _, rfl, rfl, ?_⟩
      refine ⟨_, rfl, _, rfl, _, rfl, l, _, _, _, rfl, rfl, SqL.of (S.ext (.of sq)).lst, atI_nat (v := V.ref a) (by rw [List.getElem?_map, ha]; rfl), a, CS, dx, _, _, rfl, hd, T.cl, T.nD, shF_dead _, _, _, rfl, rfl, _, rfl, ?_⟩
      refine ite2 (fun c1 => ?_) (fun c1 => ?_)
      · have z : (((Sr100.shopAt st n).deadline : Nat) : Int) < ((t : Nat) : Int) := of_decide_eq_true c1
        have e : Sr100.isOnTime st xs = false := by
          unfold Sr100.isOnTime
          refine List.all_eq_false.mpr ⟨(n, t), List.mem_of_getElem? hz, ?_⟩
          rw [decide_eq_true_eq]
          show ¬ t ≤ (Sr100.shopAt st n).deadline
          omega
        have q := k _ sq
        rw [e] at q
        exact q
      · have z : ¬ (((Sr100.shopAt st n).deadline : Nat) : Int) < ((t : Nat) : Int) := fun z => c1 (decide_eq_true z)
        refine ⟨_, _, rfl, sq, fun y hy => ?_⟩
        rw [List.take_add_one, hz] at hy
        rcases List.mem_append.mp hy with hy | hy
        · exact hA y hy
        · obtain rfl : y = (n, t) := by simpa using hy
          show t ≤ (Sr100.shopAt st n).deadline
          omega
    · rintro σ H' ⟨o3, o4, rfl, sH, hA⟩
      have e : Sr100.isOnTime st xs = true := by
        unfold Sr100.isOnTime
        refine List.all_eq_true.mpr fun y hy => decide_eq_true (hA y ?_)
        rw [List.take_of_length_le]
        · exact hy
        · rw [List.length_zip, nats_len]
          omega
      have q := k _ sH
      rw [e] at q
      exact q
/-! ### finish_of -/
abbrev sFi : Stmt := top 5
def spFi (K : PySem.W.Frag) : Sp := fun vs H Q _ => ∃ (d : Addr) (dep : Nat) (ts : List Nat), vs = [.ref d, nv dep] ∧ SqL K H d (nats ts) ∧ Q (nv (ts.getLastD dep)) H
theorem scFi : FnScope ["times", "departure"] ["times", "departure"] (defScope sFi) := ⟨rfl, rfl, rfl, by decide +kernel, rfl, by decide +kernel, by decide +kernel⟩
theorem ok_fi {f : Addr} {fd : FuncData} (F : Fun K "finish_of" "finish_of" sFi f fd) (gL : mg "len" = none) : FnOk P w K mg base CX0 1 f fd ["times", "departure"] (spFi K) := by
  refine F.ok scFi (fun vs H Q E h => ?_) (fun cdv A outer s H vs Q E hr h => ?_)
  · obtain ⟨_, _, _, rfl, _⟩ := h
    rfl
  · obtain ⟨d, dep, ts, rfl, hs, k⟩ := h
    refine ⟨_, pss_cons (ps_if (pt_cmpR op_eq (pe_callB call_len_seq (by rfl) gL PySem.boot_len (pa_cons (pv 0) pa_nil)) pe_int (nomark _)) (pss_one (ps_ret (pv 1))) pss_nil)
      (pss_one (ps_ret (pe_ix ix_list (pv 0) (pe_un un_neg pe_int) (fun _ _ => rfl)))), ?_⟩
    refine ⟨_, rfl, d, _, rfl, .inl hs, rfl, _, rfl, ?_⟩
    refine ite2 (fun c1 => ?_) (fun c1 => ?_)
    · have z : V.int ((nats ts).length : Int) = V.int 0 := of_decide_eq_true c1
      have z2 : ((nats ts).length : Int) = 0 := V.int.inj z
      rw [nats_len] at z2
      have e : ts = [] := List.eq_nil_of_length_eq_zero (by omega)
      subst e
      exact ⟨_, rfl, k⟩
    · have z : ts ≠ [] := fun z => c1 (decide_eq_true (by subst z; rfl))
      obtain ⟨pre, t, rfl⟩ : ∃ pre t, ts = pre ++ [t] := ⟨_, _, (List.dropLast_concat_getLast z).symm⟩
      have e : (pre ++ [t]).getLastD dep = t := by simp
      rw [e] at k
      refine ⟨_, rfl, _, rfl, d, _, _, _, rfl, rfl, hs, ?_, k⟩
      have e2 : nats (pre ++ [t]) = nats pre ++ [nv t] := by unfold nats; rw [List.map_append]; rfl
      rw [e2]
      exact atI_last (nats pre) (nv t)
end
end Br
end
section
set_option Elab.async false
set_option linter.all false
set_option maxRecDepth 100000
set_option maxHeartbeats 4000000
namespace Br
open PySem PySem.Spec PyProof.Rows L2 LamX NdefX BrK
theorem merg_mem : ∀ (k : Nat) (L R : List Nat), ∀ r ∈ Sr100.mergings k L R, r.length ≤ k ∧ ∀ i ∈ r, i ∈ L ∨ i ∈ R
  | 0, L, R, r, h => by
    have e : r = [] := by simpa [Sr100.mergings] using h
    subst e
    exact ⟨Nat.le_refl _, fun i hi => by cases hi⟩
  | k + 1, L, R, r, h => by
    rw [mergings_succ] at h
    rcases List.mem_append.mp h with h | h
    · cases L with
      | nil => cases h
      | cons a L =>
        obtain ⟨q, hq, rfl⟩ := List.mem_map.mp h
        obtain ⟨h1, h2⟩ := merg_mem k L R q hq
        refine ⟨by rw [List.length_cons]; omega, fun i hi => ?_⟩
        rcases List.mem_cons.mp hi with rfl | hi
        · exact .inl (List.mem_cons_self ..)
        · exact (h2 i hi).elim (fun z => .inl (List.mem_cons_of_mem _ z)) .inr
    · cases R with
      | nil => cases h
      | cons a R =>
        obtain ⟨q, hq, rfl⟩ := List.mem_map.mp h
        obtain ⟨h1, h2⟩ := merg_mem k L R q hq
        refine ⟨by rw [List.length_cons]; omega, fun i hi => ?_⟩
        rcases List.mem_cons.mp hi with rfl | hi
        · exact .inr (List.mem_cons_self ..)
        · exact (h2 i hi).elim .inl fun z => .inr (List.mem_cons_of_mem _ z)
theorem sweep_mem (st : Sr100.Street) (xs : List Nat) (hx : xs.Pairwise (· < ·)) : ∀ r ∈ Sr100.sweepingRoutes st xs, r.length ≤ xs.length ∧ ∀ i ∈ r, i ∈ xs := fun r h => by
  obtain ⟨h1, h2⟩ := merg_mem _ _ _ r h
  refine ⟨h1, fun i hi => ?_⟩
  rcases h2 i hi with z | z
  · exact (List.mem_filter.mp ((sort_perm st _ (hx.filter _)).mem_iff.mp z)).1
  · exact (List.mem_filter.mp ((sort_perm st _ (hx.filter _)).mem_iff.mp z)).1
theorem better_off {st : Sr100.Street} {r : List Nat} (h : Sr100.isOnTime st r = false) (o : Option (Nat × List Nat)) : better st o r = o := by
  unfold better
  rw [h, if_neg Bool.false_ne_true]
theorem better_none {st : Sr100.Street} {r : List Nat} (h : Sr100.isOnTime st r = true) : better st none r = some (Sr100.finishTime st r, r) := by
  unfold better
  rw [if_pos h]
theorem better_some {st : Sr100.Street} {r : List Nat} (h : Sr100.isOnTime st r = true) (p : Nat × List Nat) : better st (some p) r = if Sr100.finishTime st r < p.1 then some (Sr100.finishTime st r, r) else some p := by
  unfold better
  rw [if_pos h]
/-- the best so far, as the program holds it -/
def BestAt (H : Hp) (v : V) : Option (Nat × List Nat) → Prop
  | none => v = .non
  | some (f, r) => ∃ p q, v = .ref p ∧ H p = some (.tup [nv f, .ref q]) ∧ H q = some (.lst (nats r))
theorem BestAt.same {H H' : Hp} {v : V} : ∀ {o : Option (Nat × List Nat)}, BestAt H v o → Same H H' → BestAt H' v o
  | none, h, _ => h
  | some (_, _), ⟨p, q, e, h1, h2⟩, s => ⟨p, q, e, s _ _ h1, s _ _ h2⟩
abbrev sBe : Stmt := top 6
def spBe (K : PySem.W.Frag) (CS P : Addr) : Sp := fun vs H Q _ => ∃ (l c : Addr) (as : List Addr) (st : Sr100.Street) (xs : List Nat), vs = [.ref l, .ref c, nv st.departure] ∧ ShopsAt CS H l as st.shops ∧ SqL K H c (nats xs) ∧ xs.Pairwise (· < ·) ∧ (∀ i ∈ xs, i < st.shops.length) ∧ xs.length ≤ 7 ∧ Tabs (TbL P) H ∧
  ∀ (H' : Hp) (v : V), ExtN H H' → Tabs (TbL P) H' → BestAt H' v (told st (Sr100.bestRoute st xs)) → Q v H'
section
variable {P : Program} {w : World} {K : PySem.W.Frag} {mg : Str → Option Value} {base : Heap} {CS Pt : Addr}
theorem scBe : FnScope ["shops", "chosen", "departure", "best", "route", "times", "finish"] ["shops", "chosen", "departure"] (defScope sBe) := ⟨rfl, rfl, rfl, by decide +kernel, rfl, by decide +kernel, by decide +kernel⟩
theorem ok_be {f fS fT fO fF : Addr} {fd fdS fdT fdO fdF : FuncData} (F : Fun K "best_route_to" "best_route_to" sBe f fd)
    (gS : mg "sweeping_routes" = some (.ref fS)) (kS : PySem.W.keepIn K (.ref fS) = true) (GS : FnOk P w K mg base CX0 5 fS fdS ["shops", "chosen"] (spSw K CS Pt)) (bS : Binds K fdS ["shops", "chosen"] [])
    (gT : mg "times_along" = some (.ref fT)) (kT : PySem.W.keepIn K (.ref fT) = true) (GT : FnOk P w K mg base CX0 1 fT fdT ["shops", "route", "departure"] (spTi K CS Pt)) (bT : Binds K fdT ["shops", "route", "departure"] [])
    (gO : mg "is_on_time" = some (.ref fO)) (kO : PySem.W.keepIn K (.ref fO) = true) (GO : FnOk P w K mg base CX0 1 fO fdO ["shops", "route", "times"] (spOn K CS Pt)) (bO : Binds K fdO ["shops", "route", "times"] [])
    (gF : mg "finish_of" = some (.ref fF)) (kF : PySem.W.keepIn K (.ref fF) = true) (GF : FnOk P w K mg base CX0 1 fF fdF ["times", "departure"] (spFi K)) (bF : Binds K fdF ["times", "departure"] []) :
    FnOk P w K mg base CX0 6 f fd ["shops", "chosen", "departure"] (spBe K CS Pt) := by
  refine F.ok scBe (fun vs H Q E h => ?_) (fun cdv A outer s H vs Q E hr h => ?_)
  · obtain ⟨_, _, _, _, _, rfl, _⟩ := h
    rfl
  · obtain ⟨l, c, as, st, xs, rfl, S, hs, hx, hb, h7, hT, k⟩ := h
    have hr1 : Room 1 _ := hr.mono (by decide)
    refine ⟨_, pss_cons (ps_set (i := 3) scBe.nd rfl (.inl rfl) pe_non)
      (pss_cons (ps_for PassesOwn.never rfl (pi_list (pe_call GS hr (by rfl) gS kS bS .nil pass0 (pa_cons (pv 0) (pa_cons (pv 1) pa_nil)))) (pg_name (i := 4) scBe.nd rfl (.inl rfl))
        (pss_cons (ps_set (i := 5) scBe.nd rfl (.inl rfl) (pe_call GT hr1 (by rfl) gT kT bT .nil pass0 (pa_cons (pv 0) (pa_cons (pv 4) (pa_cons (pv 2) pa_nil)))))
        (pss_one (ps_if (pt_val (pe_call GO hr1 (by rfl) gO kO bO .nil pass0 (pa_cons (pv 0) (pa_cons (pv 4) (pa_cons (pv 5) pa_nil)))))
          (pss_cons (ps_set (i := 6) scBe.nd rfl (.inl rfl) (pe_call GF hr1 (by rfl) gF kF bF .nil pass0 (pa_cons (pv 5) (pa_cons (pv 2) pa_nil))))
          (pss_one (ps_if (PW.pt (pw_or (pt_cmpR op_isN (pv 3) pe_non (nomark _)) (pw_or1 (pt_cmpR op_lt (pv 6) (pe_ix ix_tup (pv 3) pe_int (fun _ _ => rfl)) (nomark _)))))
            (pss_one (ps_set (i := 3) scBe.nd rfl (.inl rfl) (pe_tup (pa_cons (pv 6) (pa_cons (pv 4) pa_nil))))) pss_nil)))
          pss_nil))))
      (pss_one (ps_ret (pv 3)))), ?_⟩
    refine ⟨_, rfl, _, rfl, l, c, as, st, xs, rfl, S, hs, hx, hb, h7, hT, fun H2 D us e2 T2 hD hR => ?_⟩
    have hS := S.ext e2
    have hm := sweep_mem st xs hx
    generalize hrs : Sr100.sweepingRoutes st xs = rs at hR hm
    refine ⟨D, rfl, ⟨_, SqL.of hD⟩, for_list (K := K) (a := D) (xs := us) (fun i σ H' => ∃ (vb : V) (o4 o5 o6 : Option V), σ = [some (.ref l), some (.ref c), some (nv st.departure), some vb, o4, o5, o6] ∧ Same H2 H' ∧ BestAt H' vb ((rs.take i).foldl (better st) none)) ⟨.non, _, _, _, rfl, Same.refl _, rfl⟩ (fun i σ H' _ ⟨_, _, _, _, _, z, _⟩ => SqL.of (z _ _ hD)) ?_ ?_⟩
    · rintro i x σ H' hi ⟨vb, o4, o5, o6, rfl, sH, hB⟩
      obtain ⟨r, hr', a, rfl, ha⟩ := pair_get hR hi
      obtain ⟨hrl, hri⟩ := hm r (List.mem_of_getElem? hr')
      have hrb : ∀ j ∈ r, j < st.shops.length := fun j hj => hb j (hri j hj)
      have e3 : (rs.take (i + 1)).foldl (better st) none = better st ((rs.take i).foldl (better st) none) r := by
        rw [List.take_add_one, hr', List.foldl_append]
        rfl
      refine ⟨_, rfl, _, rfl, _, rfl, l, a, as, st, r, rfl, hS.ext (.of sH), SqL.of (sH _ _ ha), hrb, by omega, fun H3 t s3 nt ht => ?_⟩
      have sH3 : Same H2 H3 := sH.trans s3
      refine ⟨_, rfl, _, rfl, _, rfl, l, a, t, as, st, r, rfl, hS.ext (.of sH3), SqL.of (sH3 _ _ ha), SqL.of ht, hrb, fun H4 s4 => ⟨_, rfl, ?_⟩⟩
      have sH4 : Same H2 H4 := sH3.trans s4
      have hB4 := hB.same (s3.trans s4)
      cases hon : Sr100.isOnTime st r with
      | false =>
        refine iteF ⟨vb, _, _, _, rfl, sH4, ?_⟩
        rw [e3, better_off hon]
        exact hB4
      | true =>
        refine iteT ?_
        refine ⟨_, rfl, _, rfl, t, st.departure, _, rfl, SqL.of (s4 _ _ ht), ?_⟩
        have hfin : (Sr100.arrivalTimes st r).getLastD st.departure = Sr100.finishTime st r := rfl
        rw [hfin]
        generalize (rs.take i).foldl (better st) none = o at hB4 e3
        have take : ∀ (q : Addr), H4 q = none → BestAt (upd H4 q (.tup [nv (Sr100.finishTime st r), .ref a])) (.ref q) (some (Sr100.finishTime st r, r)) := fun q hq =>
          ⟨q, a, rfl, upd_same, by rw [upd_ne (ne_of_none (sH4 _ _ ha) hq)]; exact sH4 _ _ ha⟩
        have sq : ∀ (q : Addr) (o : HO), H4 q = none → Same H2 (upd H4 q o) := fun q o hq b u e => by rw [upd_ne (ne_of_none (sH4 b u e) hq)]; exact sH4 b u e
        cases o with
        | none =>
          obtain rfl : vb = .non := hB4
          refine ⟨_, rfl, rfl, _, rfl, ?_⟩
          refine ite2 (fun _ => iteT ?_) fun z => absurd (decide_eq_true rfl) z
          refine ⟨_, rfl, _, rfl, by show 2 ≤ 16777216; decide, fun q hq => ⟨_, _, _, _, rfl, sq q _ hq, ?_⟩⟩
          rw [e3, better_none hon]
          exact take q hq
        | some p =>
          obtain ⟨fb, rb⟩ := p
          obtain ⟨p, q, rfl, hp, hq⟩ := hB4
          rw [better_some hon] at e3
          refine ⟨_, rfl, rfl, _, rfl, ?_⟩
          refine ite2 (fun z => nomatch of_decide_eq_true z) fun _ => ?_
          refine ⟨_, rfl, _, rfl, p, _, _, _, rfl, rfl, SqT.of hp, atI_nat (j := 0) rfl, _, _, rfl, rfl, _, rfl, ?_⟩
          refine ite2 (fun c1 => ?_) (fun c1 => ?_)
          · have z : ((Sr100.finishTime st r : Nat) : Int) < ((fb : Nat) : Int) := of_decide_eq_true c1
            refine ⟨_, rfl, _, rfl, by show 2 ≤ 16777216; decide, fun q hq => ⟨_, _, _, _, rfl, sq q _ hq, ?_⟩⟩
            rw [e3, if_pos (show Sr100.finishTime st r < fb by omega)]
            exact take q hq
          · have z : ¬ ((Sr100.finishTime st r : Nat) : Int) < ((fb : Nat) : Int) := fun z => c1 (decide_eq_true z)
            refine ⟨_, _, _, _, rfl, sH4, ?_⟩
            rw [e3, if_neg (show ¬ Sr100.finishTime st r < fb by omega)]
            exact ⟨p, q, rfl, hp, hq⟩
    · rintro σ H' ⟨vb, o4, o5, o6, rfl, sH, hB⟩
      refine ⟨_, rfl, ?_⟩
      rw [pair_len hR, List.take_length, ← hrs, best_is] at hB
      exact k H' vb (e2.trans (.of sH)) (T2.ext sH) hB
end
end Br
end
section
set_option Elab.async false
set_option linter.all false
set_option maxRecDepth 100000
set_option maxHeartbeats 2000000
namespace BrK
open PySem PySem.Spec PyProof.Rows L2 LamX NdefX
theorem dedup_step (acc : List Int) (k : Int) : (k ∈ acc ∧ step_dedup acc k = acc) ∨ (k ∉ acc ∧ step_dedup acc k = acc ++ [k]) := by
  by_cases h : k ∈ acc
  · refine .inl ⟨h, ?_⟩
    show (if acc.any (· == k) then acc else acc ++ [k]) = acc
    have e : acc.any (· == k) = true := List.any_eq_true.mpr ⟨k, h, beq_self_eq_true k⟩
    rw [if_pos e]
  · refine .inr ⟨h, ?_⟩
    show (if acc.any (· == k) then acc else acc ++ [k]) = acc ++ [k]
    rw [if_neg]
    intro z
    obtain ⟨y, hy, e⟩ := List.any_eq_true.mp z
    exact h (eq_of_beq e ▸ hy)
theorem dedup_len : ∀ (l acc : List Int), (l.foldl step_dedup acc).length ≤ acc.length + l.length ∧ ((l.foldl step_dedup acc).length = acc.length + l.length ↔ l.Nodup ∧ ∀ x ∈ l, x ∉ acc)
  | [], acc => ⟨Nat.le_refl _, ⟨fun _ => ⟨List.nodup_nil, fun x h => nomatch h⟩, fun _ => rfl⟩⟩
  | k :: l, acc => by
    rw [List.foldl_cons, List.length_cons]
    rcases dedup_step acc k with ⟨h, e⟩ | ⟨h, e⟩
    · rw [e]
      obtain ⟨a, b⟩ := dedup_len l acc
      refine ⟨by omega, ⟨fun z => absurd z (by omega), fun z => absurd h (z.2 k (List.mem_cons_self ..))⟩⟩
    · rw [e]
      obtain ⟨a, b⟩ := dedup_len l (acc ++ [k])
      rw [List.length_append, List.length_singleton] at a b
      refine ⟨by omega, ?_⟩
      rw [show acc.length + (l.length + 1) = acc.length + 1 + l.length by omega, b, List.nodup_cons]
      constructor
      · rintro ⟨h1, h2⟩
        refine ⟨⟨fun z => h2 k z (List.mem_append_right _ (List.mem_cons_self ..)), h1⟩, fun x hx => ?_⟩
        rcases List.mem_cons.mp hx with rfl | hx
        · exact h
        · exact fun z => h2 x hx (List.mem_append_left _ z)
      · rintro ⟨⟨h1, h2⟩, h3⟩
        refine ⟨h2, fun x hx z => ?_⟩
        rcases List.mem_append.mp z with z | z
        · exact h3 x (List.mem_cons_of_mem _ hx) z
        · rw [List.mem_singleton.mp z] at hx
          exact h1 hx
theorem met_len (ns : List Int) : (firstMet (fun i => ns.getD i 0) ns.length).length ≤ ns.length ∧ ((firstMet (fun i => ns.getD i 0) ns.length).length = ns.length ↔ ns.Nodup) := by
  have e : (List.range ns.length).map (fun i => ns.getD i 0) = ns := by
    refine List.ext_getElem (by rw [List.length_map, List.length_range]) fun i h1 h2 => ?_
    rw [List.getElem_map, List.getElem_range, List.getD_eq_getElem?_getD, List.getElem?_eq_getElem h2]
    rfl
  unfold firstMet
  rw [e]
  obtain ⟨a, b⟩ := dedup_len ns []
  rw [List.length_nil, Nat.zero_add] at a b
  refine ⟨a, b.trans ⟨fun z => z.1, fun z => ⟨z, fun x _ q => nomatch q⟩⟩⟩
def tLenSetA (K : PySem.W.Frag) (ta : TE) : TE := fun σ H Q => ta σ H fun x H1 => ∃ (l : Addr) (ns : List Int), x = .ref l ∧ SqL K H1 l (ns.map V.int) ∧ ns.length ≤ 4000 ∧ ∀ m : Nat, (m = ns.length ↔ ns.Nodup) → Q (.int (m : Nat)) H1
/-- len(set(xs)) of any whole numbers: whether it is the list's own length -/
theorem pe_lenSetA {X : Cx} {a : Expr} {ta : TE} {p p2 q pos : Pos} (hg : Gl X "len") (hm : X.mg "len" = none) (hg2 : Gl X "set") (hm2 : X.mg "set" = none) (ha : PE X a ta) (hc : X.calm = true := by rfl)
    (na : starEach [a] X.env = (false, eval a X.env) :: starEach [] X.env := by rfl) : PE X (.Call (.Name "len" p) [.Call (.Name "set" p2) [a] [] q] [] pos) (tLenSetA X.K ta) := by
  refine ⟨fun pins s σ H Q I h => ?_⟩
  refine Call_ (ld_blt I hg hm boot_len ?_)
  refine PyProof.Rows.callWith_builtin1 (PyProof.Rows.args_cons ?_ rfl) rfl rfl
  refine Call_ (ld_blt I hg2 hm2 boot_set ?_)
  refine PyProof.Rows.callWith_type1 (PyProof.Rows.args_cons (thn (ha.run pins s σ H _ I h) fun v s1 ⟨x, H1, I1, r1, q1⟩ => PyProof.Rows.args_nil ?_) na) na rfl
  obtain ⟨l, ns, rfl, hq, hl, q1⟩ := q1
  cases r1
  obtain ⟨its, r, pl, hz⟩ := I1.list hq
  have hlen : its.toArray.size = ns.length := by rw [List.size_toArray, ← r.length, List.length_map]
  refine call_set_list (I1.ok.hd hc) pl.isList (by simpa using RZ.intsAre_vals r) (by rw [hlen]; unfold scanBound; omega) fun h' tk hS hk => ?_
  refine PyProof.Rows.args_nil ?_
  rw [hlen] at hS
  obtain ⟨hle, hiff⟩ := met_len ns
  obtain ⟨o, es, ep, t, ho, hex, hd, _, _, _, hf, hn⟩ := hS
  have I2 : Inv X pins σ H1 { s1 with heap := h', toks := tk } := I1.kept fun b o e => hk b o (Heap.lt_size e) e
  exact call_len_set ho hex hd hf (by rw [hn] <;> omega) ⟨.int (firstMet (fun i => ns.getD i 0) ns.length).length, H1, I2.tok _, ⟨_, by rw [hn]⟩, q1 _ hiff⟩
/-- a comprehension's turns over zip of two lists of one length -/
theorem lc_zip {K : PySem.W.Frag} {a b : Addr} {xs ys : List V} {g : TG} {tt : TT} {te : TE} {vs : List Nat} {σ : L2.St} {H1 : Hp} {D : Addr} {Qd : Hp → Prop} (hl : xs.length = ys.length) (Pv : Nat → Hp → Prop) (h0 : Pv 0 (upd H1 D (.lst []))) (hq : ∀ i H, Pv i H → SqL K H a xs ∧ SqL K H b ys)
    (hs : ∀ (i : Nat) (x y : V) (T : Addr) (H : Hp), xs[i]? = some x → ys[i]? = some y → Pv i H → H T = none → g (.ref T) (wipe σ vs) (upd H T (.tup [x, y])) fun σ2 H2 => wipe σ2 vs = wipe σ vs ∧ tt σ2 H2 fun b H3 =>
      if b = true then te σ2 H3 fun y H4 => ∃ acc, H4 D = some (.lst acc) ∧ acc.length < sizeLine ∧ Pv (i + 1) (upd H4 D (.lst (acc ++ [y]))) else Pv (i + 1) H3) (hd : ∀ H, Pv xs.length H → Qd H) :
    ∃ W : Nat → Nat → Hp → Prop, (∃ m, W 0 m (upd H1 D (.lst []))) ∧ ∀ i m H, W i m H →
      ((Itz K a b).stop i H ∧ Qd H) ∨ ((Itz K a b).go i H ∧ ∃ Nx : Hp → Prop, (∀ H', Nx H' → ∃ m', m' < m ∧ W (i + 1) m' H') ∧ ∀ x H', (Itz K a b).yld i H x H' → g x (wipe σ vs) H' fun σ2 H2 => wipe σ2 vs = wipe σ vs ∧ tt σ2 H2 fun b H3 =>
        if b = true then te σ2 H3 fun y H4 => ∃ acc, H4 D = some (.lst acc) ∧ acc.length < sizeLine ∧ Nx (upd H4 D (.lst (acc ++ [y]))) else Nx H3) := by
  refine ⟨fun i m H => m = xs.length - i ∧ i ≤ xs.length ∧ Pv i H, ⟨xs.length, rfl, Nat.zero_le _, h0⟩, ?_⟩
  rintro i m H ⟨rfl, hi, p⟩
  obtain ⟨qx, qy⟩ := hq i H p
  by_cases hlt : i < xs.length
  · have hx : xs[i]? = some xs[i] := List.getElem?_eq_getElem hlt
    have hlt2 : i < ys.length := by omega
    have hy : ys[i]? = some ys[i] := List.getElem?_eq_getElem hlt2
    refine .inr ⟨⟨xs, ys, _, _, qx, qy, hx, hy⟩, Pv (i + 1), fun H' p' => ⟨xs.length - (i + 1), by omega, rfl, hlt, p'⟩, fun v H' y => ?_⟩
    obtain ⟨T, x', y', rfl, hT, rfl, f1, f2⟩ := y
    exact hs i x' y' T H (f1 xs qx) (f2 ys qy) p hT
  · have e : i = xs.length := by omega
    subst e
    exact .inl ⟨⟨xs, ys, qx, qy, Or.inl (Nat.le_refl _)⟩, hd H p⟩
end BrK
end
section
set_option Elab.async false
set_option linter.all false
set_option maxRecDepth 100000
set_option maxHeartbeats 4000000
namespace Br
open PySem PySem.Spec PyProof.Rows L2 LamX NdefX BrK
theorem same_new {H H' : Hp} {p : Addr} {o : HO} (s : Same H H') (n : H' p = none) : Same H (upd H' p o) := fun b u e => by rw [upd_ne (ne_of_none (s b u e) n)]; exact s b u e
/-! ### time_to_spare -/
abbrev sSp : Stmt := top 7
def tSpa (K : PySem.W.Frag) : TE := tOp (rI0 fun i j => .int (i - j)) (tFld K (tOp (rIxL K) (tVar 0) (tVar 4)) "deadline") (tVar 5)
def spSpa (K : PySem.W.Frag) (CS : Addr) : Sp := fun vs H Q _ => ∃ (l c : Addr) (as : List Addr) (st : Sr100.Street) (xs : List Nat), vs = [.ref l, .ref c, .int 299] ∧ ShopsAt CS H l as st.shops ∧ SqL K H c (nats xs) ∧ (∀ i ∈ xs, i < st.shops.length) ∧ xs.length ≤ 1000 ∧
  ∀ (H' : Hp), Same H H' → Q (.int (spare st xs)) H'
section
variable {P : Program} {w : World} {K : PySem.W.Frag} {mg : Str → Option Value} {base : Heap} {CS Pt : Addr}
theorem scSp : FnScope ["shops", "route", "limit", "times", "i", "arrival"] ["shops", "route", "limit"] (defScope sSp) := ⟨rfl, rfl, rfl, by decide +kernel, rfl, by decide +kernel, by decide +kernel⟩
theorem ok_spa {f fT : Addr} {fd fdT : FuncData} (F : Fun K "time_to_spare" "time_to_spare" sSp f fd) (T : TxtS K mg CS) (gZ : mg "zip" = none) (gM : mg "min" = none)
    (gT : mg "times_along" = some (.ref fT)) (kT : PySem.W.keepIn K (.ref fT) = true) (GT : FnOk P w K mg base CX0 1 fT fdT ["shops", "route", "departure"] (spTi K CS Pt)) (bT : Binds K fdT ["shops", "route", "departure"] []) :
    FnOk P w K mg base CX0 2 f fd ["shops", "route", "limit"] (spSpa K CS) := by
  refine F.ok scSp (fun vs H Q E h => ?_) (fun cdv A outer s H vs Q E hr h => ?_)
  · obtain ⟨_, _, _, _, _, rfl, _⟩ := h
    rfl
  · obtain ⟨l, c, as, st, xs, rfl, S, hs, hb, h7, k⟩ := h
    refine ⟨_, pss_cons (ps_set (i := 3) scSp.nd rfl (.inl rfl) (pe_call GT hr (by rfl) gT kT bT .nil pass0 (pa_cons (pv 0) (pa_cons (pv 1) (pa_cons pe_int pa_nil)))))
      (pss_one (ps_ret (pe_callB (cr_min rfl) (by rfl) gM (by decide +kernel) (pa_cons (pe_op op_cat (pe_lst (pa_cons (pv 2) pa_nil))
        (pe_lc (own := [("i", 4), ("arrival", 5)]) (g := gTup K 2 (gCons (gName 4) (gCons (gName 5) gNil))) (tt := tYes) (te := tSpa K) (by rfl) scSp.nd (pi_zip (by rfl) gZ (pa_cons (pv 1) (pa_cons (pv 3) pa_nil))) (blkOk_by (N := ["shops", "route", "limit", "times", "i", "arrival"]) (sc := defScope sSp) (by decide +kernel))
          (fun _ _ _ _ _ => pg_tup rfl (pgs_cons (pg_name (i := 4) scSp.nd rfl (.inl rfl)) (pgs_cons (pg_name (i := 5) scSp.nd rfl (.inl rfl)) pgs_nil))) (fun _ _ _ _ _ => pts_nil)
          (fun _ _ _ _ _ => pe_op op_sub (pe_fld (pe_ix ix_list (pv 0) (pv 4) (fun _ _ => rfl)) rfl) (pv 5)))) pa_nil)))), ?_⟩
    refine ⟨_, rfl, _, rfl, l, c, as, at0 st 0, xs, rfl, S, hs, hb, h7, fun H1 t s1 nt ht => ?_⟩
    refine ⟨_, rfl, by show 1 ≤ 16777216; decide, fun q1 m1 => ?_⟩
    have s2 : Same H (upd H1 q1 (.lst [.int 299])) := same_new s1 m1
    have t2 : upd H1 q1 (.lst [.int 299]) t = some (.lst (nats (Sr100.arrivalTimes (at0 st 0) xs))) := by rw [upd_ne (ne_of_none ht m1)]; exact ht
    have hl : (nats xs).length = (nats (Sr100.arrivalTimes (at0 st 0) xs)).length := by rw [nats_len, nats_len]; exact (arr_take _ xs _ _).symm
    have hq1 : upd H1 q1 (.lst [.int 299]) q1 = some (.lst [.int 299]) := upd_same
    generalize upd H1 q1 (.lst [.int 299]) = H2 at s2 t2 hq1
    refine ⟨_, rfl, _, rfl, c, t, _, _, rfl, s2.seq hs, SqL.of t2, fun D nD => lc_zip (K := K) (a := c) (b := t) (xs := nats xs) (ys := nats (Sr100.arrivalTimes (at0 st 0) xs)) hl (fun i Hi => Same H2 Hi ∧ Hi D = some (.lst (((slack st xs).take i).map V.int)))
      ⟨same_new (Same.refl _) nD, upd_same⟩ (fun i Hi h => ⟨h.1.seq (s2.seq hs), SqL.of (h.1 _ _ t2)⟩) ?_ ?_⟩
    · rintro i x y q Hi hx hy ⟨sH, hD⟩ nq
      obtain ⟨n, hn, rfl⟩ := nats_get hx
      obtain ⟨z, hz, rfl⟩ := nats_get hy
      have sq : Same H2 (upd Hi q (.tup [nv n, nv z])) := same_new sH nq
      obtain ⟨a, dx, ha, hd⟩ := (S.ext (.of (s2.trans sq))).get (hb n (List.mem_of_getElem? hn))
      refine ⟨q, _, rfl, SqT.of upd_same, rfl, _, _, rfl, _, _, rfl, rfl, rfl, ?_⟩
      unfold tYes
      refine iteT ?_
      refine ⟨_, rfl, _, rfl, l, _, _, _, rfl, rfl, SqL.of (S.ext (.of (s2.trans sq))).lst, atI_nat (v := V.ref a) (by rw [List.getElem?_map, ha]; rfl), a, CS, dx, _, _, rfl, hd, T.cl, T.nD, shF_dead _, _, rfl, _, _, rfl, rfl, ?_⟩
      have hsl : (slack st xs)[i]? = some (((Sr100.shopAt st n).deadline : Int) - (z : Int)) := by
        have hzz : (xs.zip (Sr100.arrivalTimes (at0 st 0) xs))[i]? = some (n, z) := List.getElem?_zip_eq_some.mpr ⟨hn, hz⟩
        unfold slack
        rw [List.getElem?_map, hzz]
        rfl
      have hil : i < xs.length := (List.getElem?_eq_some_iff.mp hn).1
      have nDq : D ≠ q := fun e => by rw [← e, hD] at nq; cases nq
      refine ⟨_, by rw [upd_ne nDq]; exact hD, ?_, ?_, ?_⟩
      · rw [List.length_map, List.length_take]
        exact Nat.lt_of_le_of_lt (show _ ≤ 1000 by omega) (by decide)
      · intro b u e
        rw [upd_ne (ne_of_none e nD)]
        exact sq b u e
      · rw [upd_same, List.take_add_one, hsl, List.map_append]
        rfl
    · rintro Hi ⟨sH, hD⟩
      have hsl : (slack st xs).length = (nats xs).length := by
        unfold slack
        rw [List.length_map, List.length_zip, ← nats_len, ← nats_len, ← hl, Nat.min_self]
      rw [← hsl, List.take_length] at hD
      have hq2 : Hi q1 = some (.lst [.int 299]) := sH _ _ hq1
      refine ⟨q1, D, [.int 299], _, rfl, rfl, hq2, hD, ?_, fun p hp => ?_⟩
      · rw [List.length_map, hsl, nats_len]
        show 1 + xs.length ≤ 16777216
        omega
      · refine ⟨p, (299 : Int) :: slack st xs, rfl, SqL.of (by rw [upd_same]; rfl), Nat.succ_pos _, fun m hm hle => ?_⟩
        rw [spare_is st xs m hm hle]
        exact k _ (same_new (s2.trans sH) hp)
end
end Br
end
section
set_option Elab.async false
set_option linter.all false
set_option maxRecDepth 100000
set_option maxHeartbeats 4000000
namespace Br
open PySem PySem.Spec PyProof.Rows L2 LamX NdefX BrK
theorem merg_some : ∀ (k : Nat) (L R : List Nat), k = L.length + R.length → Sr100.mergings k L R ≠ []
  | 0, L, R, _ => by
    show [[]] ≠ []
    exact List.cons_ne_nil _ _
  | k + 1, L, R, h => by
    rw [mergings_succ]
    intro e
    obtain ⟨e1, e2⟩ := List.append_eq_nil_iff.mp e
    cases L with
    | cons a L =>
      rw [List.length_cons] at h
      exact merg_some k L R (by omega) (List.map_eq_nil_iff.mp e1)
    | nil =>
      cases R with
      | nil => rw [List.length_nil] at h; omega
      | cons a R =>
        rw [List.length_cons, List.length_nil] at h
        exact merg_some k [] R (by rw [List.length_nil]; omega) (List.map_eq_nil_iff.mp e2)
theorem merg_len' : ∀ (k : Nat) (L R : List Nat), (Sr100.mergings k L R).length ≤ 2 ^ k
  | 0, L, R => Nat.le_refl _
  | k + 1, L, R => by
    rw [mergings_succ, List.length_append, Nat.pow_succ, Nat.mul_two]
    refine Nat.add_le_add ?_ ?_
    · cases L with
      | nil => exact Nat.zero_le _
      | cons a L => dsimp only; rw [List.length_map]; exact merg_len' k L R
    · cases R with
      | nil => exact Nat.zero_le _
      | cons a R => dsimp only; rw [List.length_map]; exact merg_len' k L R
theorem sides_len (st : Sr100.Street) : ∀ xs : List Nat, xs.length = (xs.filter fun i => decide ((Sr100.shopAt st i).position < 0)).length + (xs.filter fun i => decide (0 ≤ (Sr100.shopAt st i).position)).length
  | [] => rfl
  | x :: xs => by
    have ih := sides_len st xs
    rw [List.filter_cons, List.filter_cons, List.length_cons]
    by_cases c : (Sr100.shopAt st x).position < 0
    · rw [if_pos (decide_eq_true c), if_neg (by rw [decide_eq_true_eq]; omega), List.length_cons]
      omega
    · rw [if_neg (by rw [decide_eq_true_eq]; exact c), if_pos (decide_eq_true (by omega)), List.length_cons]
      omega
theorem sweep_some (st : Sr100.Street) (xs : List Nat) (hx : xs.Pairwise (· < ·)) : Sr100.sweepingRoutes st xs ≠ [] := by
  unfold Sr100.sweepingRoutes
  refine merg_some _ _ _ ?_
  unfold Sr100.leftShops Sr100.rightShops
  rw [(sort_perm st _ (hx.filter _)).length_eq, (sort_perm st _ (hx.filter _)).length_eq]
  exact sides_len st xs
/-! ### latest_departure_to -/
abbrev sLt : Stmt := top 8
def tLt (K : PySem.W.Frag) (CS : Addr) : TE := tCall (spSpa K CS) [] E0 (tCons (tVar 0) (tCons (tVar 3) (tCons (tVar 2) tNil)))
def spLt (K : PySem.W.Frag) (CS P : Addr) : Sp := fun vs H Q _ => ∃ (l c : Addr) (as : List Addr) (st : Sr100.Street) (xs : List Nat), vs = [.ref l, .ref c, .int 299] ∧ ShopsAt CS H l as st.shops ∧ SqL K H c (nats xs) ∧ xs.Pairwise (· < ·) ∧ (∀ i ∈ xs, i < st.shops.length) ∧ xs.length ≤ 7 ∧ Tabs (TbL P) H ∧
  ∀ (H' : Hp) (M : Int), ExtN H H' → Tabs (TbL P) H' → M ∈ (Sr100.sweepingRoutes st xs).map (spare st) → (∀ y ∈ (Sr100.sweepingRoutes st xs).map (spare st), y ≤ M) → Q (.int M) H'
section
variable {P : Program} {w : World} {K : PySem.W.Frag} {mg : Str → Option Value} {base : Heap} {CS Pt : Addr}
theorem scLt : FnScope ["shops", "chosen", "limit", "route"] ["shops", "chosen", "limit"] (defScope sLt) := ⟨rfl, rfl, rfl, by decide +kernel, rfl, by decide +kernel, by decide +kernel⟩
theorem ok_lt {f fS fT : Addr} {fd fdS fdT : FuncData} (F : Fun K "latest_departure_to" "latest_departure_to" sLt f fd) (gM : mg "max" = none)
    (gS : mg "sweeping_routes" = some (.ref fS)) (kS : PySem.W.keepIn K (.ref fS) = true) (GS : FnOk P w K mg base CX0 5 fS fdS ["shops", "chosen"] (spSw K CS Pt)) (bS : Binds K fdS ["shops", "chosen"] [])
    (gT : mg "time_to_spare" = some (.ref fT)) (kT : PySem.W.keepIn K (.ref fT) = true) (GT : FnOk P w K mg base CX0 2 fT fdT ["shops", "route", "limit"] (spSpa K CS)) (bT : Binds K fdT ["shops", "route", "limit"] []) :
    FnOk P w K mg base CX0 6 f fd ["shops", "chosen", "limit"] (spLt K CS Pt) := by
  refine F.ok scLt (fun vs H Q E h => ?_) (fun cdv A outer s H vs Q E hr h => ?_)
  · obtain ⟨_, _, _, _, _, rfl, _⟩ := h
    rfl
  · obtain ⟨l, c, as, st, xs, rfl, S, hs, hx, hb, h7, hT, k⟩ := h
    have hr2 : Room 2 _ := hr.mono (by decide)
    refine ⟨_, pss_one (ps_ret (pe_callB (cr_max rfl) (by rfl) gM (by decide +kernel) (pa_cons
        (pe_lc (own := [("route", 3)]) (g := gName 3) (tt := tYes) (te := tLt K CS) (by rfl) scLt.nd (pi_list (pe_call GS hr (by rfl) gS kS bS .nil pass0 (pa_cons (pv 0) (pa_cons (pv 1) pa_nil)))) (blkOk_by (N := ["shops", "chosen", "limit", "route"]) (sc := defScope sLt) (by decide +kernel))
          (fun _ _ _ _ _ => pg_name (i := 3) scLt.nd rfl (.inl rfl)) (fun _ _ _ _ _ => pts_nil)
          (fun _ _ _ _ _ => pe_call GT hr2 (by rfl) gT kT bT .nil pass0 (pa_cons (pv 0) (pa_cons (pv 3) (pa_cons (pv 2) pa_nil))))) pa_nil))), ?_⟩
    refine ⟨_, rfl, _, rfl, l, c, as, st, xs, rfl, S, hs, hx, hb, h7, hT, fun H2 D us e2 T2 hD hR => ?_⟩
    have hS := S.ext e2
    have hm := sweep_mem st xs hx
    have hne := sweep_some st xs hx
    generalize hrs : Sr100.sweepingRoutes st xs = rs at hR hm hne k
    have hrl := pair_len hR
    refine ⟨D, rfl, ⟨_, SqL.of hD⟩, fun D2 nD => lc_list (K := K) (a := D) (xs := us) (fun i Hi => Same H2 Hi ∧ Hi D2 = some (.lst (((rs.take i).map (spare st)).map V.int)) ∧ i ≤ us.length)
      ⟨same_new (Same.refl _) nD, upd_same, Nat.zero_le _⟩ (fun i Hi _ h => SqL.of (h.1 _ _ hD)) ?_ ?_⟩
    · rintro i x Hi hi ⟨sH, hD2, _⟩
      obtain ⟨r, hr', a, rfl, ha⟩ := pair_get hR hi
      obtain ⟨hrl2, hri⟩ := hm r (List.mem_of_getElem? hr')
      have hil : i < us.length := (List.getElem?_eq_some_iff.mp hi).1
      refine ⟨rfl, ?_⟩
      unfold tYes
      refine iteT ?_
      refine ⟨_, rfl, _, rfl, _, rfl, l, a, as, st, r, rfl, hS.ext (.of sH), SqL.of (sH _ _ ha), fun j hj => hb j (hri j hj), by omega, fun H3 s3 => ?_⟩
      refine ⟨_, s3 _ _ hD2, ?_, ?_, ?_, hil⟩
      · rw [List.length_map, List.length_map, List.length_take]
        have h2 := merg_len' xs.length (Sr100.leftShops st xs) (Sr100.rightShops st xs)
        have h3 : rs.length ≤ 2 ^ xs.length := by rw [← hrs]; exact h2
        have h4 : (2 : Nat) ^ xs.length ≤ 2 ^ 7 := Nat.pow_le_pow_right (by decide) h7
        exact Nat.lt_of_le_of_lt (show _ ≤ 1000 by omega) (by decide)
      · intro b u e
        rw [upd_ne (ne_of_none e nD)]
        exact s3 _ _ (sH _ _ e)
      · rw [upd_same, List.take_add_one, hr', List.map_append, List.map_append]
        rfl
    · rintro Hi ⟨sH, hD2, _⟩
      rw [hrl, List.take_length] at hD2
      refine ⟨D2, rs.map (spare st), rfl, SqL.of hD2, ?_, fun m hm1 hm2 => k Hi m (e2.trans (.of sH)) (T2.ext sH) hm1 hm2⟩
      rw [List.length_map]
      exact List.length_pos_iff.mpr hne
end
end Br
end
section
set_option Elab.async false
set_option linter.all false
set_option maxRecDepth 100000
set_option maxHeartbeats 4000000
namespace Br
open PySem PySem.Spec PyProof.Rows L2 LamX NdefX BrK
/-! ### loaves_of -/
abbrev sLo : Stmt := top 9
def tLo (K : PySem.W.Frag) : TE := tFld K (tOp (rIxL K) (tVar 0) (tVar 2)) "loaves"
def spLo (K : PySem.W.Frag) (CS : Addr) : Sp := fun vs H Q _ => ∃ (l c : Addr) (as : List Addr) (st : Sr100.Street) (xs : List Nat), vs = [.ref l, .ref c] ∧ ShopsAt CS H l as st.shops ∧ SqL K H c (nats xs) ∧ (∀ i ∈ xs, i < st.shops.length) ∧ xs.length ≤ 1000 ∧
  ∀ (H' : Hp), Same H H' → Q (nv (Sr100.totalLoaves st xs)) H'
section
variable {P : Program} {w : World} {K : PySem.W.Frag} {mg : Str → Option Value} {base : Heap} {CS Pt : Addr}
theorem scLo : FnScope ["shops", "chosen", "i"] ["shops", "chosen"] (defScope sLo) := ⟨rfl, rfl, rfl, by decide +kernel, rfl, by decide +kernel, by decide +kernel⟩
theorem ok_lo {f : Addr} {fd : FuncData} (F : Fun K "loaves_of" "loaves_of" sLo f fd) (T : TxtS K mg CS) (gM : mg "sum" = none) :
    FnOk P w K mg base CX0 1 f fd ["shops", "chosen"] (spLo K CS) := by
  refine F.ok scLo (fun vs H Q E h => ?_) (fun cdv A outer s H vs Q E hr h => ?_)
  · obtain ⟨_, _, _, _, _, rfl, _⟩ := h
    rfl
  · obtain ⟨l, c, as, st, xs, rfl, S, hs, hb, h7, k⟩ := h
    refine ⟨_, pss_one (ps_ret (pe_callB (cr_sum rfl) (by rfl) gM (by decide +kernel) (pa_cons
        (pe_lc (own := [("i", 2)]) (g := gName 2) (tt := tYes) (te := tLo K) (by rfl) scLo.nd (pi_list (pv 1)) (blkOk_by (N := ["shops", "chosen", "i"]) (sc := defScope sLo) (by decide +kernel))
          (fun _ _ _ _ _ => pg_name (i := 2) scLo.nd rfl (.inl rfl)) (fun _ _ _ _ _ => pts_nil)
          (fun _ _ _ _ _ => pe_fld (pe_ix ix_list (pv 0) (pv 2) (fun _ _ => rfl)) rfl)) pa_nil))), ?_⟩
    refine ⟨_, rfl, c, rfl, ⟨_, hs⟩, fun D nD => lc_list (K := K) (a := c) (xs := nats xs) (fun i Hi => Same H Hi ∧ Hi D = some (.lst (nats ((xs.take i).map fun i => (Sr100.shopAt st i).loaves))))
      ⟨same_new (Same.refl _) nD, upd_same⟩ (fun i Hi _ h => h.1.seq hs) ?_ ?_⟩
    · rintro i x Hi hi ⟨sH, hD⟩
      obtain ⟨n, hn, rfl⟩ := nats_get hi
      obtain ⟨a, dx, ha, hd⟩ := (S.ext (.of sH)).get (hb n (List.mem_of_getElem? hn))
      refine ⟨rfl, ?_⟩
      unfold tYes
      refine iteT ?_
      refine ⟨_, rfl, _, rfl, l, _, _, _, rfl, rfl, SqL.of (S.ext (.of sH)).lst, atI_nat (v := V.ref a) (by rw [List.getElem?_map, ha]; rfl), a, CS, dx, _, _, rfl, hd, T.cl, T.nL, shF_loaf _, ?_⟩
      have hil : i < xs.length := (List.getElem?_eq_some_iff.mp hn).1
      refine ⟨_, hD, ?_, ?_, ?_⟩
      · rw [nats_len, List.length_map, List.length_take]
        exact Nat.lt_of_le_of_lt (show _ ≤ 1000 by omega) (by decide)
      · intro b u e
        rw [upd_ne (ne_of_none e nD)]
        exact sH _ _ e
      · rw [upd_same, List.take_add_one, hn, List.map_append]
        unfold nats
        rw [List.map_append]
        rfl
    · rintro Hi ⟨sH, hD⟩
      rw [nats_len, List.take_length] at hD
      refine ⟨D, zs (xs.map fun i => (Sr100.shopAt st i).loaves), rfl, by rw [zs_nats]; exact SqL.of hD, ?_⟩
      have e : (zs (xs.map fun i => (Sr100.shopAt st i).loaves)).sum = ((Sr100.totalLoaves st xs : Nat) : Int) := sum_zs _
      rw [e]
      exact k Hi sH
/-! ### number_of_sets -/
abbrev sNu : Stmt := top 10
def spNu (CS : Addr) : Sp := fun vs H Q _ => ∃ (l : Addr) (as : List Addr) (ss : List Sr100.Shop), vs = [.ref l] ∧ ShopsAt CS H l as ss ∧ ss.length ≤ 7 ∧ Q (nv (2 ^ ss.length)) H
theorem scNu : FnScope ["shops"] ["shops"] (defScope sNu) := ⟨rfl, rfl, rfl, by decide +kernel, rfl, by decide +kernel, by decide +kernel⟩
theorem ok_nu {f : Addr} {fd : FuncData} (F : Fun K "number_of_sets" "number_of_sets" sNu f fd) (gL : mg "len" = none) : FnOk P w K mg base CX0 1 f fd ["shops"] (spNu CS) := by
  refine F.ok scNu (fun vs H Q E h => ?_) (fun cdv A outer s H vs Q E hr h => ?_)
  · obtain ⟨_, _, _, rfl, _⟩ := h
    rfl
  · obtain ⟨l, as, ss, rfl, S, h7, k⟩ := h
    refine ⟨_, pss_one (ps_ret (pe_op op_oneShl pe_int (pe_callB call_len_seq (by rfl) gL PySem.boot_len (pa_cons (pv 0) pa_nil)))), ?_⟩
    have el : (as.map V.ref).length = ss.length := by rw [List.length_map, S.len]
    refine ⟨_, rfl, l, _, rfl, .inl (SqL.of S.lst), (as.map V.ref).length, rfl, rfl, by omega, ?_⟩
    rw [el]
    have e : ((2 ^ ss.length : Nat) : Int) = (2 : Int) ^ ss.length := by simp
    unfold nv at k
    rw [e] at k
    exact k
/-! ### members_of -/
abbrev sMe : Stmt := top 11
def tMe : TT := tTest (tOp rEq (tOp (fun x y H Q => ∃ n : Nat, x = .int (n : Int) ∧ y = .int 1 ∧ Q (.int ((n % 2 : Nat) : Int)) H) (tOp (fun x y H Q => ∃ (i : Int) (k : Nat), x = .int i ∧ y = .int (k : Int) ∧ Q (.int (i / 2 ^ k)) H) (tVar 0) (tVar 2)) (tC (.int 1))) (tC (.int 1)))
def spMe (CS : Addr) : Sp := fun vs H Q _ => ∃ (l : Addr) (as : List Addr) (ss : List Sr100.Shop) (m : Nat), vs = [nv m, .ref l] ∧ ShopsAt CS H l as ss ∧ ss.length ≤ 7 ∧
  ∀ (H' : Hp) (p : Addr), Same H H' → H' p = some (.lst (nats (SrCommon.maskMembers ss.length m))) → Q (.ref p) H'
theorem scMe : FnScope ["mask", "shops", "i"] ["mask", "shops"] (defScope sMe) := ⟨rfl, rfl, rfl, by decide +kernel, rfl, by decide +kernel, by decide +kernel⟩
theorem ok_me {f : Addr} {fd : FuncData} (F : Fun K "members_of" "members_of" sMe f fd) (gL : mg "len" = none) (gR : mg "range" = none) : FnOk P w K mg base CX0 1 f fd ["mask", "shops"] (spMe CS) := by
  refine F.ok scMe (fun vs H Q E h => ?_) (fun cdv A outer s H vs Q E hr h => ?_)
  · obtain ⟨_, _, _, _, rfl, _⟩ := h
    rfl
  · obtain ⟨l, as, ss, m, rfl, S, h7, k⟩ := h
    refine ⟨_, pss_one (ps_ret (pe_lc (own := [("i", 2)]) (g := gName 2) (tt := tMe) (te := tVar 2) (by rfl) scMe.nd (pi_range1 rfl gR (pa_cons (pe_callB call_len_seq (by rfl) gL PySem.boot_len (pa_cons (pv 1) pa_nil)) pa_nil)) (blkOk_by (N := ["mask", "shops", "i"]) (sc := defScope sMe) (by decide +kernel))
          (fun _ _ _ _ _ => pg_name (i := 2) scMe.nd rfl (.inl rfl)) (fun _ _ _ _ _ => pts_one (pt_cmpR op_eq (pe_op op_odd (pe_op op_shrN (pv 0) (pv 2)) pe_int) pe_int (nomark _)))
          (fun _ _ _ _ _ => pv 2))), ?_⟩
    have el : (as.map V.ref).length = ss.length := by rw [List.length_map, S.len]
    refine ⟨_, rfl, l, _, rfl, .inl (SqL.of S.lst), ((as.map V.ref).length : Int), rfl, by omega, by omega, ?_⟩
    rw [el, show ((ss.length : Nat) : Int).toNat = ss.length by omega]
    refine fun D nD => lc_range (lo := 0) (n := ss.length) (fun i Hi => Same H Hi ∧ Hi D = some (.lst (nats (SrCommon.maskMembers i m)))) ⟨same_new (Same.refl _) nD, upd_same⟩ ?_ ?_
    · rintro i Hi hi ⟨sH, hD⟩
      have ms : SrCommon.maskMembers (i + 1) m = SrCommon.maskMembers i m ++ if m / 2 ^ i % 2 == 1 then [i] else [] := by
        unfold SrCommon.maskMembers
        rw [List.range_succ, List.filter_append]
        congr 1
        rw [List.filter_cons, List.filter_nil]
      refine ⟨rfl, ?_⟩
      rw [Int.zero_add]
      refine ⟨_, rfl, _, rfl, (m : Int), i, rfl, rfl, m / 2 ^ i, congrArg V.int (by simp), rfl, rfl, _, rfl, ?_⟩
      refine ite2 (fun c => ?_) (fun c => ?_)
      · have c' : (m / 2 ^ i % 2 == 1) = true := by
          have z := V.int.inj (of_decide_eq_true c)
          rw [beq_iff_eq]
          omega
        rw [if_pos c'] at ms
        refine ⟨_, rfl, _, hD, ?_, ?_, ?_⟩
        · have := mask_len i m
          rw [nats_len]
          exact Nat.lt_of_le_of_lt (show _ ≤ 1000 by omega) (by decide)
        · intro b u e
          rw [upd_ne (ne_of_none e nD)]
          exact sH _ _ e
        · rw [upd_same, ms]
          unfold nats
          rw [List.map_append]
          rfl
      · have c' : ¬ (m / 2 ^ i % 2 == 1) = true := fun z => by
          rw [beq_iff_eq] at z
          exact c (decide_eq_true (congrArg V.int (by omega)))
        rw [if_neg c', List.append_nil] at ms
        exact ⟨sH, by rw [ms]; exact hD⟩
    · rintro Hi ⟨sH, hD⟩
      exact k Hi D sH hD
end
end Br
end
section
set_option Elab.async false
set_option linter.all false
set_option maxRecDepth 100000
set_option maxHeartbeats 4000000
namespace Br
open PySem PySem.Spec PyProof.Rows L2 LamX NdefX BrK
theorem ext_new {H H' : Hp} {p : Addr} {o : HO} (s : ExtN H H') (n : H' p = none) : ExtN H (upd H' p o) := s.trans (.of (same_new (Same.refl _) n))
/-! ### richest_route -/
abbrev sRi : Stmt := top 12
def spRi (CS P : Addr) : Sp := fun vs H Q _ => ∃ (l : Addr) (as : List Addr) (st : Sr100.Street), vs = [.ref l, nv st.departure] ∧ ShopsAt CS H l as st.shops ∧ st.shops.length ≤ 7 ∧ Tabs (TbL P) H ∧
  ∀ (H' : Hp) (p q : Addr), ExtN H H' → Tabs (TbL P) H' → H' p = some (.tup [nv (Sr100.totalLoaves st (Sr100.bestShops st)), .ref q]) → H' q = some (.lst (nats ((Sr100.bestRoute st (Sr100.bestShops st)).getD []))) → Q (.ref p) H'
section
variable {P : Program} {w : World} {K : PySem.W.Frag} {mg : Str → Option Value} {base : Heap} {CS Pt : Addr}
theorem scRi : FnScope ["shops", "departure", "richest", "mask", "chosen", "loaves", "best"] ["shops", "departure"] (defScope sRi) := ⟨rfl, rfl, rfl, by decide +kernel, rfl, by decide +kernel, by decide +kernel⟩
theorem rich_yes {st : Sr100.Street} {B : List Nat} {m : Nat} (h1 : Sr100.totalLoaves st B < Sr100.totalLoaves st (SrCommon.maskMembers st.shops.length m)) (h2 : (Sr100.bestRoute st (SrCommon.maskMembers st.shops.length m)).isSome = true) : richer st B m = SrCommon.maskMembers st.shops.length m := by
  unfold richer
  dsimp only
  rw [if_pos ⟨h1, h2⟩]
theorem rich_no {st : Sr100.Street} {B : List Nat} {m : Nat} (h : ¬ (Sr100.totalLoaves st B < Sr100.totalLoaves st (SrCommon.maskMembers st.shops.length m) ∧ (Sr100.bestRoute st (SrCommon.maskMembers st.shops.length m)).isSome = true)) : richer st B m = B := by
  unfold richer
  dsimp only
  rw [if_neg h]
theorem ok_ri {f fN fM fL fB : Addr} {fd fdN fdM fdL fdB : FuncData} (F : Fun K "richest_route" "richest_route" sRi f fd) (gR : mg "range" = none)
    (gN : mg "number_of_sets" = some (.ref fN)) (kN : PySem.W.keepIn K (.ref fN) = true) (GN : FnOk P w K mg base CX0 1 fN fdN ["shops"] (spNu CS)) (bN : Binds K fdN ["shops"] [])
    (gM : mg "members_of" = some (.ref fM)) (kM : PySem.W.keepIn K (.ref fM) = true) (GM : FnOk P w K mg base CX0 1 fM fdM ["mask", "shops"] (spMe CS)) (bM : Binds K fdM ["mask", "shops"] [])
    (gL : mg "loaves_of" = some (.ref fL)) (kL : PySem.W.keepIn K (.ref fL) = true) (GL : FnOk P w K mg base CX0 1 fL fdL ["shops", "chosen"] (spLo K CS)) (bL : Binds K fdL ["shops", "chosen"] [])
    (gB : mg "best_route_to" = some (.ref fB)) (kB : PySem.W.keepIn K (.ref fB) = true) (GB : FnOk P w K mg base CX0 6 fB fdB ["shops", "chosen", "departure"] (spBe K CS Pt)) (bB : Binds K fdB ["shops", "chosen", "departure"] []) :
    FnOk P w K mg base CX0 7 f fd ["shops", "departure"] (spRi CS Pt) := by
  refine F.ok scRi (fun vs H Q E h => ?_) (fun cdv A outer s H vs Q E hr h => ?_)
  · obtain ⟨_, _, _, rfl, _⟩ := h
    rfl
  · obtain ⟨l, as, st, rfl, S, h7, hT, k⟩ := h
    have hr1 : Room 1 _ := hr.mono (by decide)
    refine ⟨_, pss_cons (ps_set (i := 2) scRi.nd rfl (.inl rfl) (pe_tup (pa_cons pe_int (pa_cons (pe_lst pa_nil) pa_nil))))
      (pss_cons (ps_for PassesOwn.never rfl (pi_range2 (by rfl) gR (pa_cons pe_int (pa_cons (pe_call GN hr1 (by rfl) gN kN bN .nil pass0 (pa_cons (pv 0) pa_nil)) pa_nil))) (pg_name (i := 3) scRi.nd rfl (.inl rfl))
        (pss_cons (ps_set (i := 4) scRi.nd rfl (.inl rfl) (pe_call GM hr1 (by rfl) gM kM bM .nil pass0 (pa_cons (pv 3) (pa_cons (pv 0) pa_nil))))
        (pss_cons (ps_set (i := 5) scRi.nd rfl (.inl rfl) (pe_call GL hr1 (by rfl) gL kL bL .nil pass0 (pa_cons (pv 0) (pa_cons (pv 4) pa_nil))))
        (pss_one (ps_if (pt_cmpR op_gt (pv 5) (pe_ix ix_tup (pv 2) pe_int (fun _ _ => rfl)) (nomark _))
          (pss_cons (ps_set (i := 6) scRi.nd rfl (.inl rfl) (pe_call GB hr (by rfl) gB kB bB .nil pass0 (pa_cons (pv 0) (pa_cons (pv 4) (pa_cons (pv 1) pa_nil)))))
          (pss_one (ps_if (pt_cmpR op_notN (pv 6) pe_non (nomark _))
            (pss_one (ps_set (i := 2) scRi.nd rfl (.inl rfl) (pe_tup (pa_cons (pv 5) (pa_cons (pe_ix ix_tup (pv 6) pe_int (fun _ _ => rfl)) pa_nil))))) pss_nil))) pss_nil)))))
      (pss_one (ps_ret (pv 2)))), ?_⟩
    refine ⟨by show 0 ≤ 16777216; decide, fun q0 m0 => ⟨by show 2 ≤ 16777216; decide, fun p0 m1 => ?_⟩⟩
    have s0 : Same H (upd (upd H q0 (.lst [])) p0 (.tup [.int 0, .ref q0])) := same_new (same_new (Same.refl _) m0) m1
    have qp : q0 ≠ p0 := fun z => by rw [← z, upd_same] at m1; cases m1
    have hq0 : upd (upd H q0 (.lst [])) p0 (.tup [.int 0, .ref q0]) q0 = some (.lst []) := by rw [upd_ne qp, upd_same]
    have hp0 : upd (upd H q0 (.lst [])) p0 (.tup [.int 0, .ref q0]) p0 = some (.tup [.int 0, .ref q0]) := upd_same
    generalize upd (upd H q0 (.lst [])) p0 (.tup [.int 0, .ref q0]) = H1 at s0 hq0 hp0
    refine ⟨_, rfl, l, as, st.shops, rfl, S.ext (.of s0), h7, ?_⟩
    have hpw : (2 : Nat) ^ st.shops.length ≤ 2 ^ 7 := Nat.pow_le_pow_right (by decide) h7
    have hpos : 0 < (2 : Nat) ^ st.shops.length := Nat.pow_pos (by decide)
    refine ⟨1, ((2 ^ st.shops.length : Nat) : Int), rfl, ⟨by decide, by decide, by omega, by omega⟩, ?_⟩
    rw [show (((2 ^ st.shops.length : Nat) : Int) - 1).toNat = 2 ^ st.shops.length - 1 by omega]
    refine for_range (lo := 1) (n := 2 ^ st.shops.length - 1) (fun i σ H' => ∃ (p q : Addr) (o3 o4 o5 o6 : Option V), σ = [some (.ref l), some (nv st.departure), some (.ref p), o3, o4, o5, o6] ∧ ExtN H H' ∧ Tabs (TbL Pt) H' ∧
      H' p = some (.tup [nv (Sr100.totalLoaves st (richTo st (i + 1))), .ref q]) ∧ H' q = some (.lst (nats ((Sr100.bestRoute st (richTo st (i + 1))).getD []))))
      ⟨p0, q0, _, _, _, _, rfl, .of s0, hT.ext s0, by rw [rich_one]; exact hp0, by rw [rich_one]; exact hq0⟩ ?_ ?_
    · rintro i σ H' hi ⟨p, q, o3, o4, o5, o6, rfl, e1, T1, hp, hq⟩
      have ei : (1 : Int) + (i : Int) = (((i + 1 : Nat)) : Int) := by omega
      rw [ei]
      have es : richTo st (i + 1 + 1) = richer st (richTo st (i + 1)) (i + 1) := rich_succ st (i + 1)
      refine ⟨_, rfl, _, rfl, l, as, st.shops, i + 1, rfl, S.ext e1, h7, fun H2 c s2 hc => ?_⟩
      have e2 : ExtN H H2 := e1.trans (.of s2)
      have hmb := mask_lt st.shops.length (i + 1)
      have hml := mask_len st.shops.length (i + 1)
      have hmp := mask_pair st.shops.length (i + 1)
      refine ⟨_, rfl, _, rfl, l, c, as, st, _, rfl, S.ext e2, SqL.of hc, hmb, by omega, fun H3 s3 => ?_⟩
      have e3 : ExtN H H3 := e2.trans (.of s3)
      have hp3 := s3 _ _ (s2 _ _ hp)
      have hq3 := s3 _ _ (s2 _ _ hq)
      refine ⟨_, rfl, _, rfl, p, _, _, _, rfl, rfl, SqT.of hp3, atI_nat (j := 0) rfl, _, _, rfl, rfl, _, rfl, ?_⟩
      refine ite2 (fun c1 => ?_) (fun c1 => ?_)
      · have c1' : Sr100.totalLoaves st (richTo st (i + 1)) < Sr100.totalLoaves st (SrCommon.maskMembers st.shops.length (i + 1)) := by
          have z : ((Sr100.totalLoaves st (richTo st (i + 1)) : Nat) : Int) < ((Sr100.totalLoaves st (SrCommon.maskMembers st.shops.length (i + 1)) : Nat) : Int) := of_decide_eq_true c1
          omega
        refine ⟨_, rfl, _, rfl, _, rfl, l, c, as, st, _, rfl, S.ext e3, SqL.of (s3 _ _ hc), hmp, hmb, by omega, T1.ext (s2.trans s3), fun H4 b e4 T4 hB => ?_⟩
        have e5 : ExtN H H4 := e3.trans e4
        have hp4 := e4 _ _ hp3 fun ps z => by cases z
        have hq4 := e4 _ _ hq3 fun ps z => by cases z
        cases hb : Sr100.bestRoute st (SrCommon.maskMembers st.shops.length (i + 1)) with
        | none =>
          rw [hb] at hB
          obtain rfl : b = .non := hB
          refine ⟨_, rfl, rfl, _, rfl, ite2 (fun z => ?_) fun _ => ?_⟩
          · exact absurd z (by decide)
          · have en : richer st (richTo st (i + 1)) (i + 1) = richTo st (i + 1) := rich_no fun z => by rw [hb] at z; exact Bool.noConfusion z.2
            exact ⟨p, q, _, _, _, _, rfl, e5, T4, by rw [es, en]; exact hp4, by rw [es, en]; exact hq4⟩
        | some r =>
          rw [hb] at hB
          obtain ⟨pb, qb, rfl, hpb, hqb⟩ := hB
          refine ⟨_, rfl, rfl, _, rfl, ite2 (fun _ => ?_) fun z => ?_⟩
          · refine ⟨_, rfl, _, rfl, pb, _, _, _, rfl, rfl, SqT.of hpb, atI_nat (j := 1) rfl, by show 2 ≤ 16777216; decide, fun p2 n2 => ?_⟩
            have en : richer st (richTo st (i + 1)) (i + 1) = SrCommon.maskMembers st.shops.length (i + 1) := rich_yes c1' (by rw [hb]; rfl)
            refine ⟨p2, qb, _, _, _, _, rfl, ext_new e5 n2, T4.ext (same_new (Same.refl _) n2), ?_, ?_⟩
            · rw [es, en]; exact upd_same
            · rw [es, en, hb, upd_ne (ne_of_none hqb n2)]; exact hqb
          · exact absurd (show (!decide (V.ref pb = V.non)) = true from by rw [decide_eq_false (fun q => nomatch q)]; rfl) z
      · have c1' : ¬ Sr100.totalLoaves st (richTo st (i + 1)) < Sr100.totalLoaves st (SrCommon.maskMembers st.shops.length (i + 1)) := fun z => c1 (decide_eq_true (show ((Sr100.totalLoaves st (richTo st (i + 1)) : Nat) : Int) < ((Sr100.totalLoaves st (SrCommon.maskMembers st.shops.length (i + 1)) : Nat) : Int) by omega))
        have en : richer st (richTo st (i + 1)) (i + 1) = richTo st (i + 1) := rich_no fun z => c1' z.1
        exact ⟨p, q, _, _, _, _, rfl, e3, T1.ext (s2.trans s3), by rw [es, en]; exact hp3, by rw [es, en]; exact hq3⟩
    · rintro σ H' ⟨p, q, o3, o4, o5, o6, rfl, e1, T1, hp, hq⟩
      refine ⟨_, rfl, ?_⟩
      rw [show 2 ^ st.shops.length - 1 + 1 = 2 ^ st.shops.length by omega, ← rich_is] at hp hq
      exact k H' p q e1 T1 hp hq
end
end Br
end
section
set_option Elab.async false
set_option linter.all false
set_option maxRecDepth 100000
set_option maxHeartbeats 4000000
namespace Br
open PySem PySem.Spec PyProof.Rows L2 LamX NdefX BrK
/-! ### the van in the heap -/
def vanF (l : Addr) (st : Sr100.Street) : List (Str × V) := [("departure", nv st.departure), ("shops", .ref l)]
theorem vanF_dep (l : Addr) (st : Sr100.Street) : (vanF l st).lookup ("departure" : Str) = some (nv st.departure) := rfl
theorem vanF_shops (l : Addr) (st : Sr100.Street) : (vanF l st).lookup ("shops" : Str) = some (.ref l) := by
  show List.lookup _ (_ :: _) = _
  rw [List.lookup_cons, show (("shops" : Str) == ("departure" : Str)) = false by decide]
  rfl
theorem vanF_no (l : Addr) (st : Sr100.Street) {m : Str} (h1 : (m == ("departure" : Str)) = false) (h2 : (m == ("shops" : Str)) = false) : (vanF l st).lookup m = none := by
  show List.lookup _ (_ :: _ :: _) = _
  rw [List.lookup_cons, h1]
  rw [List.lookup_cons, h2]
  rfl
structure VanAt (CV CS : Addr) (H : Hp) (v l : Addr) (as : List Addr) (st : Sr100.Street) : Prop where
  van : ∃ dx, H v = some (.ins CV dx (vanF l st))
  shops : ShopsAt CS H l as st.shops
  seven : st.shops.length ≤ 7
theorem VanAt.ext {CV CS : Addr} {H H' : Hp} {v l : Addr} {as : List Addr} {st : Sr100.Street} (A : VanAt CV CS H v l as st) (e : ExtN H H') : VanAt CV CS H' v l as st :=
  ⟨A.van.elim fun dx h => ⟨dx, e _ _ h fun ps z => (by cases z)⟩, A.shops.ext e, A.seven⟩
/-- no list stood there -/
def NewL (H : Hp) (a : Addr) : Prop := ∀ xs, H a ≠ some (.lst xs)
theorem NewL.of {H : Hp} {a : Addr} (h : H a = none) : NewL H a := fun xs e => by rw [h] at e; cases e
theorem NewL.ext {H H1 : Hp} {a : Addr} (n : NewL H1 a) (e : ExtN H H1) : NewL H a := fun xs q => n xs (e _ _ q fun ps z => by cases z)
/-- what a call on the van leaves: all but its list, the instances and the tables -/
def Keeps (l : Addr) (H H' : Hp) : Prop := ∀ b o, b ≠ l → (∀ ps, o ≠ .tbl ps) → (∀ C dx fs, o ≠ .ins C dx fs) → H b = some o → H' b = some o
theorem Keeps.of {l : Addr} {H H' : Hp} (e : ExtN H H') : Keeps l H H' := fun b o _ h _ q => e b o q h
theorem Keeps.trans {l : Addr} {H H1 H2 : Hp} (a : Keeps l H H1) (b : Keeps l H1 H2) : Keeps l H H2 := fun c o h1 h2 h3 q => b c o h1 h2 h3 (a c o h1 h2 h3 q)
/-- a step that changes the van's list and instances alone -/
def StepL (l : Addr) (H H' : Hp) : Prop := ∀ b o, b ≠ l → (∀ C dx fs, o ≠ .ins C dx fs) → H b = some o → H' b = some o
theorem StepL.keeps {l : Addr} {H H' : Hp} (e : StepL l H H') : Keeps l H H' := fun b o h1 _ h3 q => e b o h1 h3 q
theorem StepL.of {l : Addr} {H H' : Hp} (e : Same H H') : StepL l H H' := fun b o _ _ q => e b o q
theorem StepL.trans {l : Addr} {H H1 H2 : Hp} (a : StepL l H H1) (b : StepL l H1 H2) : StepL l H H2 := fun c o h1 h2 q => b c o h1 h2 (a c o h1 h2 q)
theorem StepL.tabs {l : Addr} {H H' : Hp} {xs : List V} {T : List (Addr × Str)} (e : StepL l H H') (hl : H l = some (.lst xs)) (t : Tabs T H) : Tabs T H' := fun p hp => by
  obtain ⟨ps, h1, h2, h3⟩ := t p hp
  refine ⟨ps, e _ _ (ne_of h1 hl fun z => by cases z) (fun C dx fs z => by cases z) h1, h2, fun pos cv hc => ?_⟩
  obtain ⟨c, e1, e2⟩ := h3 pos cv hc
  exact ⟨c, e1, e _ _ (ne_of e2 hl fun z => by unfold CodeO at z; cases z) (fun C dx fs z => by unfold CodeO at z; cases z) e2⟩
/-- what a call answers, and what it leaves -/
def out (st : Sr100.Street) (c : Sr100.Call) : Sr100.Street × List Int := match Sr100.perform st c with
  | (some st', r) => (st', r.code :: r.values)
  | (none, r) => (st, r.code :: r.values)
/-- the promise of a method that stands for a call -/
def spCall (CV CS P : Addr) (n : Nat) (mk : List Int → Sr100.Call) : Sp := fun vs H Q _ => ∃ (v l : Addr) (as : List Addr) (st : Sr100.Street) (xs : List Int), xs.length = n ∧ vs = .ref v :: xs.map V.int ∧ VanAt CV CS H v l as st ∧ Tabs (TbL P) H ∧
  ∀ (H' : Hp) (a : Addr) (as' : List Addr), NewL H a → Keeps l H H' → Tabs (TbL P) H' → H' a = some (.lst ((out st (mk xs)).2.map V.int)) → VanAt CV CS H' v l as' (out st (mk xs)).1 → Q (.ref a) H'
/-- an answer of one number that leaves all as it was -/
theorem same_end {CV CS P v l p : Addr} {as : List Addr} {st : Sr100.Street} {H : Hp} {c : Sr100.Call} {r : List Int} {Q : VK} (A : VanAt CV CS H v l as st) (hT : Tabs (TbL P) H) (hp : H p = none) (e : out st c = (st, r))
    (k : ∀ (H' : Hp) (a : Addr) (as' : List Addr), NewL H a → Keeps l H H' → Tabs (TbL P) H' → H' a = some (.lst ((out st c).2.map V.int)) → VanAt CV CS H' v l as' (out st c).1 → Q (.ref a) H') : Q (.ref p) (upd H p (.lst (r.map V.int))) := by
  have s : Same H (upd H p (.lst (r.map V.int))) := fun b o q => by rw [upd_ne (ne_of_none q hp)]; exact q
  refine k _ p as (.of hp) (.of (.of s)) (hT.ext s) ?_ ?_
  · rw [e]; exact upd_same
  · rw [e]; exact A.ext (.of s)
structure TxtV (K : PySem.W.Frag) (mg : Str → Option Value) (CV CS : Addr) : Prop where
  S : TxtS K mg CS
  cl : Cls K CV
  nD : NoAttr K CV "departure"
  nS : NoAttr K CV "shops"
  lt : ∃ t, mg "LATEST_TIME" = some (.int 299 t)
  fa : ∃ t, mg "FARTHEST" = some (.int 99 t)
  ml : ∃ t, mg "MOST_LOAVES" = some (.int 99 t)
  ms : ∃ t, mg "MOST_SHOPS" = some (.int 7 t)
  e11 : ∃ t, mg "NO_INSTANCE" = some (.int (-11) t)
  e2 : ∃ t, mg "NO_SUCH_SHOP" = some (.int (-2) t)
  e22 : ∃ t, mg "OUT_OF_RANGE" = some (.int (-22) t)
  e28 : ∃ t, mg "TOO_MANY_SHOPS" = some (.int (-28) t)
  e33 : ∃ t, mg "NOT_ON_TIME" = some (.int (-33) t)
  gA : mg "abs" = none
  gL : mg "len" = none
  gR : mg "range" = none
  gI : mg "list" = none
/-- a constant of the file, a whole number -/
theorem pgi {X : Cx} {x : Str} {n : Int} {pos : Pos} (hg : Gl X x) (h : ∃ t, X.mg x = some (.int n t)) (hd : (x == ("__debug__" : Str)) = false := by decide) : PE X (.Name x pos) (tC (.int n)) := by
  obtain ⟨t, e⟩ := h
  exact pe_glob hg e ⟨t, rfl⟩ hd
/-! ### the ranges -/
abbrev sIsT : Stmt := top 41
abbrev sIsP : Stmt := top 42
abbrev sIsL : Stmt := top 43
def spIs (f : Int → Bool) : Sp := fun vs H Q _ => ∃ z : Int, vs = [.int z] ∧ Q (.bl (f z)) H
section
variable {P : Program} {w : World} {K : PySem.W.Frag} {mg : Str → Option Value} {base : Heap} {CV CS Pt : Addr}
theorem scIs : FnScope ["value"] ["value"] (defScope sIsT) := ⟨rfl, rfl, rfl, by decide +kernel, rfl, by decide +kernel, by decide +kernel⟩
theorem scIsP : FnScope ["value"] ["value"] (defScope sIsP) := ⟨rfl, rfl, rfl, by decide +kernel, rfl, by decide +kernel, by decide +kernel⟩
theorem scIsL : FnScope ["value"] ["value"] (defScope sIsL) := ⟨rfl, rfl, rfl, by decide +kernel, rfl, by decide +kernel, by decide +kernel⟩
theorem ok_isT {f : Addr} {fd : FuncData} (F : Fun K "is_time" "is_time" sIsT f fd) (T : TxtV K mg CV CS) : FnOk P w K mg base CX0 1 f fd ["value"] (spIs Sr100.isTime) := by
  refine F.ok scIs (fun vs H Q E h => ?_) (fun cdv A outer s H vs Q E hr h => ?_)
  · obtain ⟨_, rfl, _⟩ := h
    rfl
  · obtain ⟨z, rfl, k⟩ := h
    refine ⟨_, pss_one (ps_ret (pe_chain op_le op_le pe_int (pv 0) (pgi (by rfl) T.lt))), ?_⟩
    refine ⟨_, rfl, _, _, rfl, rfl, _, rfl, ?_⟩
    have e : Sr100.isTime z = (decide (0 ≤ z) && decide (z ≤ 299)) := rfl
    rw [e] at k
    refine ite2 (fun c => ?_) (fun c => ?_)
    · rw [c, Bool.true_and] at k
      exact ⟨_, _, rfl, rfl, k⟩
    · rw [Bool.eq_false_iff.mpr c, Bool.false_and] at k
      exact k
theorem ok_isP {f : Addr} {fd : FuncData} (F : Fun K "is_position" "is_position" sIsP f fd) (T : TxtV K mg CV CS) : FnOk P w K mg base CX0 1 f fd ["value"] (spIs Sr100.isPosition) := by
  refine F.ok scIsP (fun vs H Q E h => ?_) (fun cdv A outer s H vs Q E hr h => ?_)
  · obtain ⟨_, rfl, _⟩ := h
    rfl
  · obtain ⟨z, rfl, k⟩ := h
    refine ⟨_, pss_one (ps_ret (pe_cmpR op_le (pe_callB call_abs (by rfl) T.gA (by decide +kernel) (pa_cons (pv 0) pa_nil)) (pgi (by rfl) T.fa) (nomark _))), ?_⟩
    refine ⟨_, rfl, _, rfl, _, _, rfl, rfl, ?_⟩
    have e : Sr100.isPosition z = decide ((if z < 0 then -z else z) ≤ 99) := by
      unfold Sr100.isPosition SrCommon.inRange
      rw [Bool.eq_iff_iff]
      simp only [Bool.and_eq_true, decide_eq_true_eq]
      split <;> omega
    rw [e] at k
    exact k
theorem ok_isL {f : Addr} {fd : FuncData} (F : Fun K "is_loaves" "is_loaves" sIsL f fd) (T : TxtV K mg CV CS) : FnOk P w K mg base CX0 1 f fd ["value"] (spIs Sr100.isLoaves) := by
  refine F.ok scIsL (fun vs H Q E h => ?_) (fun cdv A outer s H vs Q E hr h => ?_)
  · obtain ⟨_, rfl, _⟩ := h
    rfl
  · obtain ⟨z, rfl, k⟩ := h
    refine ⟨_, pss_one (ps_ret (pe_chain op_le op_le pe_int (pv 0) (pgi (by rfl) T.ml))), ?_⟩
    refine ⟨_, rfl, _, _, rfl, rfl, _, rfl, ?_⟩
    have e : Sr100.isLoaves z = (decide (0 ≤ z) && decide (z ≤ 99)) := rfl
    rw [e] at k
    refine ite2 (fun c => ?_) (fun c => ?_)
    · rw [c, Bool.true_and] at k
      exact ⟨_, _, rfl, rfl, k⟩
    · rw [Bool.eq_false_iff.mpr c, Bool.false_and] at k
      exact k
/-! ### has_shop -/
abbrev cVan : Stmt := top 45
abbrev cShop : Stmt := top 44
abbrev sHas : Stmt := inClass cVan 1
def spHas (CV CS : Addr) : Sp := fun vs H Q _ => ∃ (v l : Addr) (as : List Addr) (st : Sr100.Street) (i : Int), vs = [.ref v, .int i] ∧ VanAt CV CS H v l as st ∧ Q (.bl (Sr100.isShop st i)) H
theorem scHas : FnScope ["self", "i"] ["self", "i"] (defScope sHas) := ⟨rfl, rfl, rfl, by decide +kernel, rfl, by decide +kernel, by decide +kernel⟩
theorem ok_has {f : Addr} {fd : FuncData} (F : Fun K "has_shop" "Van.has_shop" sHas f fd) (T : TxtV K mg CV CS) : FnOk P w K mg base CX0 1 f fd ["self", "i"] (spHas CV CS) := by
  refine F.ok scHas (fun vs H Q E h => ?_) (fun cdv A outer s H vs Q E hr h => ?_)
  · obtain ⟨_, _, _, _, _, rfl, _⟩ := h
    rfl
  · obtain ⟨v, l, as, st, i, rfl, A, k⟩ := h
    obtain ⟨dx, hv⟩ := A.van
    refine ⟨_, pss_one (ps_ret (pe_chain op_le op_lt pe_int (pv 1) (pe_callB call_len_seq (by rfl) T.gL PySem.boot_len (pa_cons (pe_fld (pv 0) rfl) pa_nil)))), ?_⟩
    refine ⟨_, rfl, _, _, rfl, rfl, _, rfl, ?_⟩
    have e : Sr100.isShop st i = (decide (0 ≤ i) && decide (i < (st.shops.length : Int))) := rfl
    rw [e] at k
    refine ite2 (fun c => ?_) (fun c => ?_)
    · rw [c, Bool.true_and] at k
      refine ⟨_, rfl, v, CV, dx, _, _, rfl, hv, T.cl, T.nS, vanF_shops _ _, l, _, rfl, .inl (SqL.of A.shops.lst), _, _, rfl, rfl, ?_⟩
      rw [List.length_map, A.shops.len]
      exact k
    · rw [Bool.eq_false_iff.mpr c, Bool.false_and] at k
      exact k
end
end Br
end
section
set_option Elab.async false
set_option linter.all false
set_option maxRecDepth 100000
set_option maxHeartbeats 4000000
namespace Br
open PySem PySem.Spec PyProof.Rows L2 LamX NdefX BrK
/-! ### the makers -/
abbrev sShI : Stmt := inClass cShop 0
abbrev sVaI : Stmt := inClass cVan 0
theorem putF_ne {f g : Str} {v x : V} {r : List (Str × V)} (h : ¬ g = f) : putF f v ((g, x) :: r) = (g, x) :: putF f v r := by
  show (if g = f then _ else _) = _
  rw [if_neg h]
theorem putF_eq {f : Str} {v x : V} {r : List (Str × V)} : putF f v ((f, x) :: r) = (f, v) :: r := by
  show (if f = f then _ else _) = _
  rw [if_pos rfl]
theorem shop_put (a b c : V) : putF "loaves" c (putF "deadline" b (putF "position" a [])) = ([("position", a), ("deadline", b), ("loaves", c)] : List (Str × V)) := by
  have e1 : putF "position" a [] = ([("position", a)] : List (Str × V)) := rfl
  rw [e1, putF_ne (by decide)]
  have e2 : putF "deadline" b [] = ([("deadline", b)] : List (Str × V)) := rfl
  rw [e2, putF_ne (by decide), putF_ne (by decide)]
  rfl
def spShI (CS : Addr) : Sp := fun vs H Q _ => ∃ (p dx : Addr) (a b c : V), vs = [.ref p, a, b, c] ∧ H p = some (.ins CS dx []) ∧ ∀ H' : Hp, H' p = some (.ins CS dx [("position", a), ("deadline", b), ("loaves", c)]) → (∀ b o, b ≠ p → H b = some o → H' b = some o) → Q .non H'
section
variable {P : Program} {w : World} {K : PySem.W.Frag} {mg : Str → Option Value} {base : Heap} {CV CS Pt : Addr}
theorem scShI : FnScope ["self", "position", "deadline", "loaves"] ["self", "position", "deadline", "loaves"] (defScope sShI) := ⟨rfl, rfl, rfl, by decide +kernel, rfl, by decide +kernel, by decide +kernel⟩
theorem ok_shI {f : Addr} {fd : FuncData} (F : Fun K "__init__" "Shop.__init__" sShI f fd) (T : TxtS K mg CS) : FnOk P w K mg base CX0 1 f fd ["self", "position", "deadline", "loaves"] (spShI CS) := by
  refine F.ok scShI (fun vs H Q E h => ?_) (fun cdv A outer s H vs Q E hr h => ?_)
  · obtain ⟨_, _, _, _, _, rfl, _⟩ := h
    rfl
  · obtain ⟨p, dx, a, b, c, rfl, hp, k⟩ := h
    refine ⟨_, pss_cons (ps_fld (pv 0) (pv 1) rfl) (pss_cons (ps_fld (pv 0) (pv 2) rfl) (pss_one (ps_fld (pv 0) (pv 3) rfl))), ?_⟩
    refine ⟨_, rfl, _, rfl, p, CS, dx, _, rfl, hp, T.cl, T.nP, (by show 0 < 1000; decide), ?_⟩
    refine ⟨_, rfl, _, rfl, p, CS, dx, _, rfl, upd_same, T.cl, T.nD, (by show 1 < 1000; decide), ?_⟩
    refine ⟨_, rfl, _, rfl, p, CS, dx, _, rfl, upd_same, T.cl, T.nL, ?_, ?_⟩
    · show (if (("position" : Str) = ("deadline" : Str)) then _ else _ : List (Str × V)).length < 1000
      rw [if_neg (by decide)]
      show 2 < 1000
      decide
    · refine k _ ?_ fun q o hq e => by rw [upd_ne hq, upd_ne hq, upd_ne hq]; exact e
      rw [upd_same, shop_put]
def spVaI (CV : Addr) : Sp := fun vs H Q _ => ∃ (p dx : Addr) (d : Nat), vs = [.ref p, nv d] ∧ H p = some (.ins CV dx []) ∧ ∀ (H' : Hp) (l : Addr), H' p = some (.ins CV dx (vanF l ⟨[], d⟩)) → H' l = some (.lst []) → H l = none → (∀ b o, b ≠ p → H b = some o → H' b = some o) → Q .non H'
theorem scVaI : FnScope ["self", "departure"] ["self", "departure"] (defScope sVaI) := ⟨rfl, rfl, rfl, by decide +kernel, rfl, by decide +kernel, by decide +kernel⟩
theorem ok_vaI {f : Addr} {fd : FuncData} (F : Fun K "__init__" "Van.__init__" sVaI f fd) (T : TxtV K mg CV CS) : FnOk P w K mg base CX0 1 f fd ["self", "departure"] (spVaI CV) := by
  refine F.ok scVaI (fun vs H Q E h => ?_) (fun cdv A outer s H vs Q E hr h => ?_)
  · obtain ⟨_, _, _, rfl, _⟩ := h
    rfl
  · obtain ⟨p, dx, d, rfl, hp, k⟩ := h
    refine ⟨_, pss_cons (ps_fld (pv 0) (pv 1) rfl) (pss_one (ps_fld (pv 0) (pe_lst pa_nil) rfl)), ?_⟩
    refine ⟨_, rfl, _, rfl, p, CV, dx, _, rfl, hp, T.cl, T.nD, (by show 0 < 1000; decide), ?_⟩
    refine ⟨Nat.zero_le _, fun l hl => ?_⟩
    have hpl : p ≠ l := fun z => by rw [← z, upd_same] at hl; cases hl
    refine ⟨_, rfl, p, CV, dx, _, rfl, by rw [upd_ne hpl]; exact upd_same, T.cl, T.nS, (by show 1 < 1000; decide), ?_⟩
    refine k _ l ?_ ?_ ?_ fun b o hb e => ?_
    · rw [upd_same]
      show some (HO.ins CV dx (if (("departure" : Str) = ("shops" : Str)) then _ else _)) = _
      rw [if_neg (by decide)]
      rfl
    · rw [upd_ne (Ne.symm hpl), upd_same]
    · rw [upd_ne (Ne.symm hpl)] at hl
      exact hl
    · have e1 : upd H p (.ins CV dx (putF "departure" (nv d) [])) b = some o := by rw [upd_ne hb]; exact e
      rw [upd_ne hb, upd_ne (ne_of_none e1 hl)]
      exact e1
/-! ### add_shop -/
abbrev sAdd : Stmt := inClass cVan 2
def mkAdd : List Int → Sr100.Call
  | [p, d, n] => .addShop p d n
  | _ => .describe
theorem three {n : Nat} : ∀ {xs : List Int}, xs.length = 3 → ∃ a b c, xs = [a, b, c]
  | [a, b, c], _ => ⟨a, b, c, rfl⟩
theorem two : ∀ {xs : List Int}, xs.length = 2 → ∃ a b, xs = [a, b]
  | [a, b], _ => ⟨a, b, rfl⟩
theorem one : ∀ {xs : List Int}, xs.length = 1 → ∃ a, xs = [a]
  | [a], _ => ⟨a, rfl⟩
theorem scAdd : FnScope ["self", "position", "deadline", "loaves"] ["self", "position", "deadline", "loaves"] (defScope sAdd) := ⟨rfl, rfl, rfl, by decide +kernel, rfl, by decide +kernel, by decide +kernel⟩
theorem out_add_bad {st : Sr100.Street} {p d n : Int} (h : Sr100.isPosition p = false ∨ Sr100.isTime d = false ∨ Sr100.isLoaves n = false) : out st (.addShop p d n) = (st, [-22]) := by
  unfold out Sr100.perform
  dsimp only
  rw [if_pos h]
  rfl
theorem out_add_full {st : Sr100.Street} {p d n : Int} (h : ¬ (Sr100.isPosition p = false ∨ Sr100.isTime d = false ∨ Sr100.isLoaves n = false)) (h7 : Sr100.maxShops ≤ st.shops.length) : out st (.addShop p d n) = (st, [-28]) := by
  unfold out Sr100.perform
  dsimp only
  rw [if_neg h, if_pos h7]
  rfl
theorem out_add {st : Sr100.Street} {p d n : Int} (h : ¬ (Sr100.isPosition p = false ∨ Sr100.isTime d = false ∨ Sr100.isLoaves n = false)) (h7 : ¬ Sr100.maxShops ≤ st.shops.length) : out st (.addShop p d n) = ({ st with shops := st.shops ++ [⟨p, d.toNat, n.toNat⟩] }, [(st.shops.length : Int)]) := by
  unfold out Sr100.perform
  dsimp only
  rw [if_neg h, if_neg h7]
  rfl
theorem time_nat {z : Int} (h : Sr100.isTime z = true) : ((z.toNat : Nat) : Int) = z := by
  have h' : (decide (0 ≤ z) && decide (z ≤ 299)) = true := h
  simp only [Bool.and_eq_true, decide_eq_true_eq] at h'
  omega
theorem loaf_nat {z : Int} (h : Sr100.isLoaves z = true) : ((z.toNat : Nat) : Int) = z := by
  have h' : (decide (0 ≤ z) && decide (z ≤ 99)) = true := h
  simp only [Bool.and_eq_true, decide_eq_true_eq] at h'
  omega
theorem ok_add {f fP fT fL fI fS : Addr} {fd fdP fdT fdL fdI : FuncData} (F : Fun K "add_shop" "Van.add_shop" sAdd f fd) (T : TxtV K mg CV CS)
    (gP : mg "is_position" = some (.ref fP)) (kP : PySem.W.keepIn K (.ref fP) = true) (GP : FnOk P w K mg base CX0 1 fP fdP ["value"] (spIs Sr100.isPosition)) (bP : Binds K fdP ["value"] [])
    (gT : mg "is_time" = some (.ref fT)) (kT : PySem.W.keepIn K (.ref fT) = true) (GT : FnOk P w K mg base CX0 1 fT fdT ["value"] (spIs Sr100.isTime)) (bT : Binds K fdT ["value"] [])
    (gL : mg "is_loaves" = some (.ref fL)) (kL : PySem.W.keepIn K (.ref fL) = true) (GL : FnOk P w K mg base CX0 1 fL fdL ["value"] (spIs Sr100.isLoaves)) (bL : Binds K fdL ["value"] [])
    (gS : mg "Shop" = some (.ref CS)) (M : Mk K CS fI) (GI : FnOk P w K mg base CX0 1 fI fdI ["self", "position", "deadline", "loaves"] (spShI CS)) (bI : Binds K fdI ["self", "position", "deadline", "loaves"] []) :
    FnOk P w K mg base CX0 3 f fd ["self", "position", "deadline", "loaves"] (spCall CV CS Pt 3 mkAdd) := by
  refine F.ok scAdd (fun vs H Q E h => ?_) (fun cdv A outer s H vs Q E hr h => ?_)
  · obtain ⟨_, _, _, _, xs, hx, rfl, _⟩ := h
    rw [List.length_cons, List.length_map, hx]
    rfl
  · obtain ⟨v, l, as, st, xs, hx, rfl, A0, hT, k⟩ := h
    obtain ⟨p, d, n, rfl⟩ := three (n := 0) hx
    have hr1 : Room 1 _ := hr.mono (by decide)
    refine ⟨_, pss_cons (ps_if (pt_not (PW.pt (pw_and (pt_val (pe_call GP hr1 (by rfl) gP kP bP .nil pass0 (pa_cons (pv 1) pa_nil))) (pw_and (pt_val (pe_call GT hr1 (by rfl) gT kT bT .nil pass0 (pa_cons (pv 2) pa_nil))) (pw_and1 (pt_val (pe_call GL hr1 (by rfl) gL kL bL .nil pass0 (pa_cons (pv 3) pa_nil))))))))
        (pss_one (ps_ret (pe_lst (pa_cons (pgi (by rfl) T.e22) pa_nil)))) pss_nil)
      (pss_cons (ps_if (pt_cmpR op_ge (pe_callB call_len_seq (by rfl) T.gL PySem.boot_len (pa_cons (pe_fld (pv 0) rfl) pa_nil)) (pgi (by rfl) T.ms) (nomark _)) (pss_one (ps_ret (pe_lst (pa_cons (pgi (by rfl) T.e28) pa_nil)))) pss_nil)
      (pss_cons (ps_expr (pe_bm PySem.F.plainAttrs_list PySem.F.slot_list_append PySem.F.type_list_append mt_append (pe_fld (pv 0) rfl) (pa_cons (pe_make M GI hr (by rfl) gS bI .nil pass0 (pa_cons (pv 1) (pa_cons (pv 2) (pa_cons (pv 3) pa_nil)))) pa_nil)))
      (pss_one (ps_ret (pe_lst (pa_cons (pe_op op_sub (pe_callB call_len_seq (by rfl) T.gL PySem.boot_len (pa_cons (pe_fld (pv 0) rfl) pa_nil)) pe_int) pa_nil)))))), ?_⟩
    obtain ⟨dx, hv⟩ := A0.van
    have bad : Sr100.isPosition p = false ∨ Sr100.isTime d = false ∨ Sr100.isLoaves n = false → ∀ q, H q = none → Q (.ref q) (upd H q (.lst ([-22].map V.int))) := fun h q hq => same_end A0 hT hq (out_add_bad h) k
    refine ⟨_, rfl, _, rfl, _, rfl, ?_⟩
    cases hP : Sr100.isPosition p with
    | false => exact iteF (iteT ⟨by show 1 ≤ 16777216; decide, fun q hq => bad (.inl hP) q hq⟩)
    | true =>
      refine iteT ⟨_, rfl, _, rfl, _, rfl, ?_⟩
      cases hD : Sr100.isTime d with
      | false => exact iteF (iteT ⟨by show 1 ≤ 16777216; decide, fun q hq => bad (.inr (.inl hD)) q hq⟩)
      | true =>
        refine iteT ⟨_, rfl, _, rfl, _, rfl, ?_⟩
        cases hN : Sr100.isLoaves n with
        | false => exact iteT ⟨by show 1 ≤ 16777216; decide, fun q hq => bad (.inr (.inr hN)) q hq⟩
        | true =>
          have good : ¬ (Sr100.isPosition p = false ∨ Sr100.isTime d = false ∨ Sr100.isLoaves n = false) := by simp [hP, hD, hN]
          refine iteF ?_
          refine ⟨_, rfl, v, CV, dx, _, _, rfl, hv, T.cl, T.nS, vanF_shops _ _, l, _, rfl, .inl (SqL.of A0.shops.lst), _, _, rfl, rfl, _, rfl, ?_⟩
          rw [List.length_map, A0.shops.len]
          refine ite2 (fun c => ?_) (fun c => ?_)
          · have z : (7 : Int) ≤ (st.shops.length : Int) := of_decide_eq_true c
            exact ⟨by show 1 ≤ 16777216; decide, fun q hq => same_end A0 hT hq (out_add_full good (show 7 ≤ st.shops.length by omega)) k⟩
          · have z : ¬ (7 : Int) ≤ (st.shops.length : Int) := fun z => c (decide_eq_true z)
            refine ⟨_, rfl, v, CV, dx, _, _, rfl, hv, T.cl, T.nS, vanF_shops _ _, .inl ⟨rfl, _, SqL.of A0.shops.lst⟩, _, rfl, _, rfl, _, rfl, ?_⟩
            refine fun x ddx nx ndx nex => ⟨x, ddx, .int p, .int d, .int n, rfl, upd_same, fun H2 h2 k2 => ⟨rfl, ?_⟩⟩
            have s2 : Same H H2 := fun b o e => by
              refine k2 b o (ne_of_none e nx) ?_
              rw [upd_ne (ne_of_none e nx), upd_ne (ne_of_none e ndx)]
              exact e
            have xl : x ≠ l := fun z => by rw [z, A0.shops.lst] at nx; cases nx
            have hl2 := s2 _ _ A0.shops.lst
            refine ⟨l, _, _, rfl, rfl, hl2, ?_, ?_⟩
            · rw [List.length_map, A0.shops.len]
              exact Nat.lt_of_le_of_lt A0.seven (by decide)
            · -- return [len(self.shops) - 1]
              have vl : v ≠ l := fun z => by rw [z, A0.shops.lst] at hv; cases hv
              have e1 : as.map V.ref ++ [V.ref x] = (as ++ [x]).map V.ref := by rw [List.map_append]; rfl
              have hl3 : upd H2 l (.lst (as.map V.ref ++ [V.ref x])) l = some (.lst ((as ++ [x]).map V.ref)) := by rw [upd_same, e1]
              refine ⟨_, rfl, v, CV, dx, _, _, rfl, by rw [upd_ne vl]; exact s2 _ _ hv, T.cl, T.nS, vanF_shops _ _, l, _, rfl, .inl (SqL.of hl3), _, _, rfl, rfl, by show 1 ≤ 16777216; decide, fun q hq => ?_⟩
              have ho : out st (mkAdd [p, d, n]) = _ := out_add good (show ¬ 7 ≤ st.shops.length by omega)
              have e2 : ((((as ++ [x]).map V.ref).length : Int) - 1) = (st.shops.length : Int) := by
                rw [List.length_map, List.length_append, List.length_singleton, A0.shops.len]
                omega
              have nl : q ≠ l := fun z => by rw [z, upd_same] at hq; cases hq
              have hq2 : H2 q = none := by rw [upd_ne nl] at hq; exact hq
              show Q (.ref q) (upd (upd H2 l (.lst (as.map V.ref ++ [V.ref x]))) q (.lst [.int ((((as ++ [x]).map V.ref).length : Int) - 1)]))
              rw [e2]
              have old : ∀ b o, b ≠ l → H2 b = some o → upd (upd H2 l (.lst (as.map V.ref ++ [V.ref x]))) q (.lst [.int (st.shops.length : Int)]) b = some o := fun b o hb e => by
                rw [upd_ne (ne_of_none e hq2), upd_ne hb]
                exact e
              have stp : StepL l H (upd (upd H2 l (.lst (as.map V.ref ++ [V.ref x]))) q (.lst [.int (st.shops.length : Int)])) := fun b o hb _ e => old b o hb (s2 _ _ e)
              refine k _ q (as ++ [x]) ((NewL.of hq2).ext (.of s2)) stp.keeps (stp.tabs A0.shops.lst hT) (by rw [upd_same, ho]; rfl) ?_
              rw [ho]
              refine ⟨⟨dx, old v _ vl (s2 _ _ hv)⟩, ⟨by rw [upd_ne (Ne.symm nl)]; exact hl3, ?_, ?_, fun j a sh ha hsh => ?_⟩, ?_⟩
              · show (as ++ [x]).length = (st.shops ++ [_]).length
                rw [List.length_append, List.length_append, A0.shops.len]
                rfl
              · refine List.nodup_append.mpr ⟨A0.shops.nd, List.nodup_cons.mpr ⟨List.not_mem_nil, List.nodup_nil⟩, fun a ha b hb z => ?_⟩
                obtain rfl := List.mem_singleton.mp hb
                subst z
                obtain ⟨j, hj⟩ := List.mem_iff_getElem?.mp ha
                have hjl : j < st.shops.length := by rw [← A0.shops.len]; exact (List.getElem?_eq_some_iff.mp hj).1
                obtain ⟨a', dx', h1, h2'⟩ := A0.shops.get hjl
                obtain rfl : a' = a := Option.some.inj (h1.symm.trans hj)
                rw [h2'] at nx
                cases nx
              · rcases Nat.lt_or_ge j as.length with hj | hj
                · rw [List.getElem?_append_left hj] at ha
                  have hsh' : (st.shops ++ [(⟨p, d.toNat, n.toNat⟩ : Sr100.Shop)])[j]? = some sh := hsh
                  rw [List.getElem?_append_left (by rw [← A0.shops.len]; exact hj)] at hsh'
                  obtain ⟨dx', h⟩ := A0.shops.at_ j a sh ha hsh'
                  exact ⟨dx', old a _ (ne_of h A0.shops.lst fun z => by cases z) (s2 _ _ h)⟩
                · have hj' : j = as.length := by
                    have z := (List.getElem?_eq_some_iff.mp ha).1
                    rw [List.length_append, List.length_singleton] at z
                    omega
                  subst hj'
                  rw [List.getElem?_append_right (Nat.le_refl _), Nat.sub_self] at ha
                  obtain rfl : x = a := Option.some.inj ha
                  have hsh' : (st.shops ++ [(⟨p, d.toNat, n.toNat⟩ : Sr100.Shop)])[as.length]? = some sh := hsh
                  rw [A0.shops.len, List.getElem?_append_right (Nat.le_refl _), Nat.sub_self] at hsh'
                  obtain rfl := Option.some.inj hsh'
                  refine ⟨ddx, (old x _ xl h2).trans ?_⟩
                  unfold shF nv
                  rw [time_nat hD, loaf_nat hN]
              · show (st.shops ++ [_]).length ≤ 7
                rw [List.length_append, List.length_singleton]
                omega
end
end Br
end
section
set_option Elab.async false
set_option linter.all false
set_option maxRecDepth 100000
set_option maxHeartbeats 4000000
namespace Br
open PySem PySem.Spec PyProof.Rows L2 LamX NdefX BrK
theorem erase_map {α β : Type} (f : α → β) : ∀ (l : List α) (j : Nat), (l.map f).eraseIdx j = (l.eraseIdx j).map f
  | [], _ => rfl
  | _ :: _, 0 => rfl
  | a :: l, j + 1 => by
    show f a :: (l.map f).eraseIdx j = f a :: (l.eraseIdx j).map f
    rw [erase_map f l j]
theorem shop_nat {st : Sr100.Street} {i : Int} (h : Sr100.isShop st i = true) : ∃ j : Nat, i = (j : Int) ∧ j < st.shops.length := by
  have h' : (decide (0 ≤ i) && decide (i < (st.shops.length : Int))) = true := h
  simp only [Bool.and_eq_true, decide_eq_true_eq] at h'
  exact ⟨i.toNat, by omega, by omega⟩
/-- one shop changes -/
theorem ShopsAt.put {CS : Addr} {H H' : Hp} {l a dx : Addr} {as : List Addr} {ss : List Sr100.Shop} {j : Nat} {s : Sr100.Shop} (S : ShopsAt CS H l as ss) (ha : as[j]? = some a) (h : H' a = some (.ins CS dx (shF s))) (k : ∀ b o, b ≠ a → H b = some o → H' b = some o) (hs : ss[j]? ≠ none) : ShopsAt CS H' l as (ss.set j s) := by
  have hal : l ≠ a := fun z => by
    obtain ⟨t, ht⟩ : ∃ t, ss[j]? = some t := by
      cases e : ss[j]? with
      | none => exact absurd e hs
      | some t => exact ⟨t, rfl⟩
    obtain ⟨dy, hy⟩ := S.at_ j a t ha ht
    rw [← z, S.lst] at hy
    cases hy
  refine ⟨k _ _ hal S.lst, by rw [List.length_set]; exact S.len, S.nd, fun i b t hb ht => ?_⟩
  by_cases hij : i = j
  · subst hij
    obtain rfl : a = b := Option.some.inj (ha.symm.trans hb)
    have hl : i < ss.length := by rw [← S.len]; exact (List.getElem?_eq_some_iff.mp ha).1
    rw [List.getElem?_set_self hl] at ht
    obtain rfl := Option.some.inj ht
    exact ⟨dx, h⟩
  · rw [List.getElem?_set_ne (Ne.symm hij)] at ht
    obtain ⟨dy, hy⟩ := S.at_ i b t hb ht
    exact ⟨dy, k _ _ (fun z => hij (nd_ix S.nd hb (by rw [z]; exact ha))) hy⟩
/-- one shop goes -/
theorem ShopsAt.drop {CS : Addr} {H H' : Hp} {l : Addr} {as : List Addr} {ss : List Sr100.Shop} {j : Nat} (S : ShopsAt CS H l as ss) (h : H' l = some (.lst ((as.eraseIdx j).map V.ref))) (k : ∀ b o, b ≠ l → H b = some o → H' b = some o) : ShopsAt CS H' l (as.eraseIdx j) (ss.eraseIdx j) := by
  refine ⟨h, ?_, S.nd.sublist (List.eraseIdx_sublist _ _), fun i b t hb ht => ?_⟩
  · rw [List.length_eraseIdx, List.length_eraseIdx, S.len]
  · rw [List.getElem?_eraseIdx] at hb ht
    have go : ∀ i, as[i]? = some b → ss[i]? = some t → ShopAt CS H' b t := fun i hb ht => by
      obtain ⟨dy, hy⟩ := S.at_ i b t hb ht
      exact ⟨dy, k _ _ (ne_of hy S.lst fun z => by cases z) hy⟩
    by_cases c : i < j
    · rw [if_pos c] at hb ht
      exact go _ hb ht
    · rw [if_neg c] at hb ht
      exact go _ hb ht
theorem shop_at {st : Sr100.Street} {j : Nat} (h : j < st.shops.length) : st.shops[j]? = some (Sr100.shopAt st j) := by
  rw [List.getElem?_eq_getElem h]
  unfold Sr100.shopAt
  rw [List.getD_eq_getElem?_getD, List.getElem?_eq_getElem h]
  rfl
abbrev sRem : Stmt := inClass cVan 3
abbrev sPos : Stmt := inClass cVan 4
abbrev sDea : Stmt := inClass cVan 5
abbrev sLoa : Stmt := inClass cVan 6
abbrev sDep : Stmt := inClass cVan 7
def mk1 (f : Int → Sr100.Call) : List Int → Sr100.Call
  | [a] => f a
  | _ => .describe
def mk2 (f : Int → Int → Sr100.Call) : List Int → Sr100.Call
  | [a, b] => f a b
  | _ => .describe
section
variable {P : Program} {w : World} {K : PySem.W.Frag} {mg : Str → Option Value} {base : Heap} {CV CS Pt : Addr}
theorem scRem : FnScope ["self", "i"] ["self", "i"] (defScope sRem) := ⟨rfl, rfl, rfl, by decide +kernel, rfl, by decide +kernel, by decide +kernel⟩
theorem ok_rem {f fH : Addr} {fd fdH : FuncData} (F : Fun K "remove_shop" "Van.remove_shop" sRem f fd) (T : TxtV K mg CV CS) (mH : Meth K CV "has_shop" fH) (GH : FnOk P w K mg base CX0 1 fH fdH ["self", "i"] (spHas CV CS)) (bH : Binds K fdH ["self", "i"] []) :
    FnOk P w K mg base CX0 2 f fd ["self", "i"] (spCall CV CS Pt 1 (mk1 .removeShop)) := by
  refine F.ok scRem (fun vs H Q E h => ?_) (fun cdv A outer s H vs Q E hr h => ?_)
  · obtain ⟨_, _, _, _, xs, hx, rfl, _⟩ := h
    rw [List.length_cons, List.length_map, hx]
    rfl
  · obtain ⟨v, l, as, st, xs, hx, rfl, A0, hT, k⟩ := h
    obtain ⟨i, rfl⟩ := one hx
    obtain ⟨dx, hv⟩ := A0.van
    refine ⟨_, pss_cons (ps_if (pt_not (pt_val (pe_meth (pv 0) T.cl mH GH hr bH .nil pass0 (pa_cons (pv 1) pa_nil)))) (pss_one (ps_ret (pe_lst (pa_cons (pgi (by rfl) T.e2) pa_nil)))) pss_nil)
      (pss_cons (ps_expr (pe_bm PySem.F.plainAttrs_list PySem.F.slot_list_pop PySem.F.type_list_pop mt_popAt (pe_fld (pv 0) rfl) (pa_cons (pv 1) pa_nil)))
      (pss_one (ps_ret (pe_lst (pa_cons (pe_callB call_len_seq (by rfl) T.gL PySem.boot_len (pa_cons (pe_fld (pv 0) rfl) pa_nil)) pa_nil))))), ?_⟩
    refine ⟨_, rfl, v, dx, _, rfl, hv, vanF_no _ _ (by decide) (by decide), _, rfl, v, l, as, st, i, rfl, A0, _, rfl, ?_⟩
    cases hi : Sr100.isShop st i with
    | false =>
      refine iteT ⟨by show 1 ≤ 16777216; decide, fun q hq => ?_⟩
      refine same_end (r := [-2]) A0 hT hq ?_ k
      unfold mk1 out Sr100.perform
      dsimp only
      rw [if_pos hi]
      rfl
    | true =>
      obtain ⟨j, rfl, hj⟩ := shop_nat hi
      have hja : j < as.length := by rw [A0.shops.len]; exact hj
      have ho : out st (mk1 .removeShop [(j : Int)]) = ({ st with shops := st.shops.eraseIdx j }, [((st.shops.length - 1 : Nat) : Int)]) := by
        unfold mk1 out Sr100.perform
        dsimp only
        rw [if_neg (by rw [hi]; exact Bool.noConfusion)]
        rfl
      have vl : v ≠ l := fun z => by rw [z, A0.shops.lst] at hv; cases hv
      have h64 : (j : Int) < 2 ^ 63 := by
        have := A0.seven
        omega
      have hix : seqIndex? (j : Int) (as.map V.ref).length = some j := by
        refine (ixN_seq (n := (as.map V.ref).length) ?_).1
        unfold ixN
        rw [List.length_map]
        rw [if_pos (by omega), if_pos (by omega)]
        rfl
      refine iteF ⟨_, rfl, v, CV, dx, _, _, rfl, hv, T.cl, T.nS, vanF_shops _ _, .inl ⟨rfl, _, SqL.of A0.shops.lst⟩, _, rfl, l, _, _, j, .ref as[j], rfl, rfl, A0.shops.lst, by omega, h64, hix, ?_, ?_⟩
      · rw [List.getElem?_map, List.getElem?_eq_getElem hja]
        rfl
      · have e1 : (as.map V.ref).eraseIdx j = (as.eraseIdx j).map V.ref := erase_map V.ref as j
        rw [e1]
        refine ⟨_, rfl, v, CV, dx, _, _, rfl, by rw [upd_ne vl]; exact hv, T.cl, T.nS, vanF_shops _ _, l, _, rfl, .inl (SqL.of upd_same), by show 1 ≤ 16777216; decide, fun q hq => ?_⟩
        have e2 : (((as.eraseIdx j).map V.ref).length : Int) = ((st.shops.length - 1 : Nat) : Int) := by
          rw [List.length_map, List.length_eraseIdx, if_pos hja, A0.shops.len]
        show Q (.ref q) (upd (upd H l (.lst ((as.eraseIdx j).map V.ref))) q (.lst [.int (((as.eraseIdx j).map V.ref).length : Int)]))
        rw [e2]
        have nl : q ≠ l := fun z => by rw [z, upd_same] at hq; cases hq
        have hq2 : H q = none := by rw [upd_ne nl] at hq; exact hq
        have old : ∀ b o, b ≠ l → H b = some o → upd (upd H l (.lst ((as.eraseIdx j).map V.ref))) q (.lst [.int ((st.shops.length - 1 : Nat) : Int)]) b = some o := fun b o hb e => by
          rw [upd_ne (ne_of_none e hq2), upd_ne hb]
          exact e
        have stp : StepL l H (upd (upd H l (.lst ((as.eraseIdx j).map V.ref))) q (.lst [.int ((st.shops.length - 1 : Nat) : Int)])) := fun b o hb _ e => old b o hb e
        refine k _ q (as.eraseIdx j) (.of hq2) stp.keeps (stp.tabs A0.shops.lst hT) (by rw [upd_same, ho]; rfl) ?_
        rw [ho]
        refine ⟨⟨dx, old v _ vl hv⟩, A0.shops.drop (by rw [upd_ne (Ne.symm nl)]; exact upd_same) old, ?_⟩
        show (st.shops.eraseIdx j).length ≤ 7
        rw [List.length_eraseIdx]
        have := A0.seven
        split <;> omega
end
end Br
end
section
set_option Elab.async false
set_option linter.all false
set_option maxRecDepth 100000
set_option maxHeartbeats 4000000
namespace Br
open PySem PySem.Spec PyProof.Rows L2 LamX NdefX BrK
theorem put_pos (s : Sr100.Shop) (z : Int) : putF "position" (.int z) (shF s) = shF { s with position := z } := by
  unfold shF
  exact putF_eq
theorem put_dead (s : Sr100.Shop) (z : Nat) : putF "deadline" (nv z) (shF s) = shF { s with deadline := z } := by
  unfold shF
  rw [putF_ne (by decide)]
  exact congrArg _ putF_eq
theorem put_loaf (s : Sr100.Shop) (z : Nat) : putF "loaves" (nv z) (shF s) = shF { s with loaves := z } := by
  unfold shF
  rw [putF_ne (by decide), putF_ne (by decide)]
  exact congrArg _ (congrArg _ putF_eq)
/-- what a setter of a shop leaves -/
theorem set_end {CV CS P v l a dy q : Addr} {as : List Addr} {st : Sr100.Street} {H : Hp} {c : Sr100.Call} {r : Int} {j : Nat} {s' : Sr100.Shop} {Q : VK} (A0 : VanAt CV CS H v l as st) (hT : Tabs (TbL P) H) (hj : j < st.shops.length) (ha : as[j]? = some a) (hya : H a = some (.ins CS dy (shF (Sr100.shopAt st j))))
    (hva : v ≠ a) (hq : upd H a (.ins CS dy (shF s')) q = none) (ho : out st c = ({ st with shops := st.shops.set j s' }, [r]))
    (k : ∀ (H' : Hp) (a : Addr) (as' : List Addr), NewL H a → Keeps l H H' → Tabs (TbL P) H' → H' a = some (.lst ((out st c).2.map V.int)) → VanAt CV CS H' v l as' (out st c).1 → Q (.ref a) H') : Q (.ref q) (upd (upd H a (.ins CS dy (shF s'))) q (.lst [.int r])) := by
  obtain ⟨dx, hv⟩ := A0.van
  have qa : q ≠ a := fun z => by rw [z, upd_same] at hq; cases hq
  have hq2 : H q = none := by rw [upd_ne qa] at hq; exact hq
  have old : ∀ b o, b ≠ a → H b = some o → upd (upd H a (.ins CS dy (shF s'))) q (.lst [.int r]) b = some o := fun b o hb e => by
    rw [upd_ne (ne_of_none e hq2), upd_ne hb]
    exact e
  have stp : StepL l H (upd (upd H a (.ins CS dy (shF s'))) q (.lst [.int r])) := fun b o _ hi e => old b o (fun z => by subst z; exact hi CS dy _ (Option.some.inj (e.symm.trans hya))) e
  refine k _ q as (.of hq2) stp.keeps (stp.tabs A0.shops.lst hT) (by rw [upd_same, ho]; rfl) ?_
  rw [ho]
  refine ⟨⟨dx, old v _ hva hv⟩, A0.shops.put ha (by rw [upd_ne (Ne.symm qa)]; exact upd_same) old (by rw [shop_at hj]; exact fun z => by cases z), ?_⟩
  show (st.shops.set j s').length ≤ 7
  rw [List.length_set]
  exact A0.seven
section
variable {P : Program} {w : World} {K : PySem.W.Frag} {mg : Str → Option Value} {base : Heap} {CV CS Pt : Addr}
theorem scDea : FnScope ["self", "i", "deadline", "shop", "old_deadline"] ["self", "i", "deadline"] (defScope sDea) := ⟨rfl, rfl, rfl, by decide +kernel, rfl, by decide +kernel, by decide +kernel⟩
theorem ok_dea {f fH fX : Addr} {fd fdH fdX : FuncData} (F : Fun K "set_deadline" "Van.set_deadline" sDea f fd) (T : TxtV K mg CV CS) (mH : Meth K CV "has_shop" fH) (GH : FnOk P w K mg base CX0 1 fH fdH ["self", "i"] (spHas CV CS)) (bH : Binds K fdH ["self", "i"] [])
    (gX : mg "is_time" = some (.ref fX)) (kX : PySem.W.keepIn K (.ref fX) = true) (GX : FnOk P w K mg base CX0 1 fX fdX ["value"] (spIs Sr100.isTime)) (bX : Binds K fdX ["value"] []) :
    FnOk P w K mg base CX0 2 f fd ["self", "i", "deadline"] (spCall CV CS Pt 2 (mk2 .setDeadline)) := by
  refine F.ok scDea (fun vs H Q E h => ?_) (fun cdv A outer s H vs Q E hr h => ?_)
  · obtain ⟨_, _, _, _, xs, hx, rfl, _⟩ := h
    rw [List.length_cons, List.length_map, hx]
    rfl
  · obtain ⟨v, l, as, st, xs, hx, rfl, A0, hT, k⟩ := h
    obtain ⟨i, x, rfl⟩ := two hx
    obtain ⟨dx, hv⟩ := A0.van
    refine ⟨_, pss_cons (ps_if (pt_not (pt_val (pe_meth (pv 0) T.cl mH GH hr bH .nil pass0 (pa_cons (pv 1) pa_nil)))) (pss_one (ps_ret (pe_lst (pa_cons (pgi (by rfl) T.e2) pa_nil)))) pss_nil)
      (pss_cons (ps_if (pt_not (pt_val (pe_call GX hr (by rfl) gX kX bX .nil pass0 (pa_cons (pv 2) pa_nil)))) (pss_one (ps_ret (pe_lst (pa_cons (pgi (by rfl) T.e22) pa_nil)))) pss_nil)
      (pss_cons (ps_set (i := 3) scDea.nd rfl (.inl rfl) (pe_ix ix_list (pe_fld (pv 0) rfl) (pv 1) (fun _ _ => rfl)))
      (pss_cons (ps_set (i := 4) scDea.nd rfl (.inl rfl) (pe_fld (pv 3) rfl))
      (pss_cons (ps_fld (pv 3) (pv 2) rfl)
      (pss_one (ps_ret (pe_lst (pa_cons (pv 4) pa_nil)))))))), ?_⟩
    refine ⟨_, rfl, v, dx, _, rfl, hv, vanF_no _ _ (by decide) (by decide), _, rfl, v, l, as, st, i, rfl, A0, _, rfl, ?_⟩
    cases hi : Sr100.isShop st i with
    | false =>
      refine iteT ⟨by show 1 ≤ 16777216; decide, fun q hq => ?_⟩
      refine same_end (r := [-2]) A0 hT hq ?_ k
      unfold mk2 out Sr100.perform
      dsimp only
      rw [if_pos hi]
      rfl
    | true =>
      refine iteF ⟨_, rfl, x, rfl, _, rfl, ?_⟩
      have nh : ¬ Sr100.isShop st i = false := by rw [hi]; exact Bool.noConfusion
      cases hX : Sr100.isTime x with
      | false =>
        refine iteT ⟨by show 1 ≤ 16777216; decide, fun q hq => ?_⟩
        refine same_end (r := [-22]) A0 hT hq ?_ k
        unfold mk2 out Sr100.perform
        dsimp only
        rw [if_neg nh, if_pos hX]
        rfl
      | true =>
        obtain ⟨j, rfl, hj⟩ := shop_nat hi
        obtain ⟨a, dy, ha, hya⟩ := A0.shops.get hj
        have hva : v ≠ a := fun z => ?hva
        case hva =>
          rw [← z, hv] at hya
          have e := congrArg (fun o => match o with | some (HO.ins _ _ fs) => fs.length | _ => 0) hya
          exact absurd e (by show ¬ 2 = 3; decide)
        have ho : out st (mk2 .setDeadline [(j : Int), x]) = ({ st with shops := st.shops.set j { Sr100.shopAt st j with deadline := x.toNat } }, [((Sr100.shopAt st j).deadline : Int)]) := by
          unfold mk2 out Sr100.perform
          dsimp only
          rw [if_neg nh, if_neg (by rw [hX]; exact Bool.noConfusion)]
          rfl
        refine iteF ⟨_, rfl, v, CV, dx, _, _, rfl, hv, T.cl, T.nS, vanF_shops _ _, _, rfl, l, _, _, _, rfl, rfl, SqL.of A0.shops.lst, atI_nat (v := V.ref a) (by rw [List.getElem?_map, ha]; rfl), ?_⟩
        refine ⟨_, rfl, a, CS, dy, _, _, rfl, hya, T.S.cl, T.S.nD, shF_dead _, ?_⟩
        refine ⟨_, rfl, _, rfl, a, CS, dy, _, rfl, hya, T.S.cl, T.S.nD, (by show 3 < 1000; decide), ?_⟩
        have ep : putF "deadline" (.int x) (shF (Sr100.shopAt st j)) = shF { Sr100.shopAt st j with deadline := x.toNat } := by
          have z := put_dead (Sr100.shopAt st j) x.toNat
          unfold nv at z
          rw [time_nat hX] at z
          exact z
        rw [ep]
        exact ⟨_, rfl, by show 1 ≤ 16777216; decide, fun q hq => set_end A0 hT hj ha hya hva hq ho k⟩
theorem scLoa : FnScope ["self", "i", "loaves", "shop", "old_loaves"] ["self", "i", "loaves"] (defScope sLoa) := ⟨rfl, rfl, rfl, by decide +kernel, rfl, by decide +kernel, by decide +kernel⟩
theorem ok_loa {f fH fX : Addr} {fd fdH fdX : FuncData} (F : Fun K "set_loaves" "Van.set_loaves" sLoa f fd) (T : TxtV K mg CV CS) (mH : Meth K CV "has_shop" fH) (GH : FnOk P w K mg base CX0 1 fH fdH ["self", "i"] (spHas CV CS)) (bH : Binds K fdH ["self", "i"] [])
    (gX : mg "is_loaves" = some (.ref fX)) (kX : PySem.W.keepIn K (.ref fX) = true) (GX : FnOk P w K mg base CX0 1 fX fdX ["value"] (spIs Sr100.isLoaves)) (bX : Binds K fdX ["value"] []) :
    FnOk P w K mg base CX0 2 f fd ["self", "i", "loaves"] (spCall CV CS Pt 2 (mk2 .setLoaves)) := by
  refine F.ok scLoa (fun vs H Q E h => ?_) (fun cdv A outer s H vs Q E hr h => ?_)
  · obtain ⟨_, _, _, _, xs, hx, rfl, _⟩ := h
    rw [List.length_cons, List.length_map, hx]
    rfl
  · obtain ⟨v, l, as, st, xs, hx, rfl, A0, hT, k⟩ := h
    obtain ⟨i, x, rfl⟩ := two hx
    obtain ⟨dx, hv⟩ := A0.van
    refine ⟨_, pss_cons (ps_if (pt_not (pt_val (pe_meth (pv 0) T.cl mH GH hr bH .nil pass0 (pa_cons (pv 1) pa_nil)))) (pss_one (ps_ret (pe_lst (pa_cons (pgi (by rfl) T.e2) pa_nil)))) pss_nil)
      (pss_cons (ps_if (pt_not (pt_val (pe_call GX hr (by rfl) gX kX bX .nil pass0 (pa_cons (pv 2) pa_nil)))) (pss_one (ps_ret (pe_lst (pa_cons (pgi (by rfl) T.e22) pa_nil)))) pss_nil)
      (pss_cons (ps_set (i := 3) scLoa.nd rfl (.inl rfl) (pe_ix ix_list (pe_fld (pv 0) rfl) (pv 1) (fun _ _ => rfl)))
      (pss_cons (ps_set (i := 4) scLoa.nd rfl (.inl rfl) (pe_fld (pv 3) rfl))
      (pss_cons (ps_fld (pv 3) (pv 2) rfl)
      (pss_one (ps_ret (pe_lst (pa_cons (pv 4) pa_nil)))))))), ?_⟩
    refine ⟨_, rfl, v, dx, _, rfl, hv, vanF_no _ _ (by decide) (by decide), _, rfl, v, l, as, st, i, rfl, A0, _, rfl, ?_⟩
    cases hi : Sr100.isShop st i with
    | false =>
      refine iteT ⟨by show 1 ≤ 16777216; decide, fun q hq => ?_⟩
      refine same_end (r := [-2]) A0 hT hq ?_ k
      unfold mk2 out Sr100.perform
      dsimp only
      rw [if_pos hi]
      rfl
    | true =>
      refine iteF ⟨_, rfl, x, rfl, _, rfl, ?_⟩
      have nh : ¬ Sr100.isShop st i = false := by rw [hi]; exact Bool.noConfusion
      cases hX : Sr100.isLoaves x with
      | false =>
        refine iteT ⟨by show 1 ≤ 16777216; decide, fun q hq => ?_⟩
        refine same_end (r := [-22]) A0 hT hq ?_ k
        unfold mk2 out Sr100.perform
        dsimp only
        rw [if_neg nh, if_pos hX]
        rfl
      | true =>
        obtain ⟨j, rfl, hj⟩ := shop_nat hi
        obtain ⟨a, dy, ha, hya⟩ := A0.shops.get hj
        have hva : v ≠ a := fun z => ?hva
        case hva =>
          rw [← z, hv] at hya
          have e := congrArg (fun o => match o with | some (HO.ins _ _ fs) => fs.length | _ => 0) hya
          exact absurd e (by show ¬ 2 = 3; decide)
        have ho : out st (mk2 .setLoaves [(j : Int), x]) = ({ st with shops := st.shops.set j { Sr100.shopAt st j with loaves := x.toNat } }, [((Sr100.shopAt st j).loaves : Int)]) := by
          unfold mk2 out Sr100.perform
          dsimp only
          rw [if_neg nh, if_neg (by rw [hX]; exact Bool.noConfusion)]
          rfl
        refine iteF ⟨_, rfl, v, CV, dx, _, _, rfl, hv, T.cl, T.nS, vanF_shops _ _, _, rfl, l, _, _, _, rfl, rfl, SqL.of A0.shops.lst, atI_nat (v := V.ref a) (by rw [List.getElem?_map, ha]; rfl), ?_⟩
        refine ⟨_, rfl, a, CS, dy, _, _, rfl, hya, T.S.cl, T.S.nL, shF_loaf _, ?_⟩
        refine ⟨_, rfl, _, rfl, a, CS, dy, _, rfl, hya, T.S.cl, T.S.nL, (by show 3 < 1000; decide), ?_⟩
        have ep : putF "loaves" (.int x) (shF (Sr100.shopAt st j)) = shF { Sr100.shopAt st j with loaves := x.toNat } := by
          have z := put_loaf (Sr100.shopAt st j) x.toNat
          unfold nv at z
          rw [loaf_nat hX] at z
          exact z
        rw [ep]
        exact ⟨_, rfl, by show 1 ≤ 16777216; decide, fun q hq => set_end A0 hT hj ha hya hva hq ho k⟩
theorem scPos : FnScope ["self", "i", "position", "shop", "distance"] ["self", "i", "position"] (defScope sPos) := ⟨rfl, rfl, rfl, by decide +kernel, rfl, by decide +kernel, by decide +kernel⟩
theorem ok_pos {f fH fX : Addr} {fd fdH fdX : FuncData} (F : Fun K "set_position" "Van.set_position" sPos f fd) (T : TxtV K mg CV CS) (mH : Meth K CV "has_shop" fH) (GH : FnOk P w K mg base CX0 1 fH fdH ["self", "i"] (spHas CV CS)) (bH : Binds K fdH ["self", "i"] [])
    (gX : mg "is_position" = some (.ref fX)) (kX : PySem.W.keepIn K (.ref fX) = true) (GX : FnOk P w K mg base CX0 1 fX fdX ["value"] (spIs Sr100.isPosition)) (bX : Binds K fdX ["value"] []) :
    FnOk P w K mg base CX0 2 f fd ["self", "i", "position"] (spCall CV CS Pt 2 (mk2 .setPosition)) := by
  refine F.ok scPos (fun vs H Q E h => ?_) (fun cdv A outer s H vs Q E hr h => ?_)
  · obtain ⟨_, _, _, _, xs, hx, rfl, _⟩ := h
    rw [List.length_cons, List.length_map, hx]
    rfl
  · obtain ⟨v, l, as, st, xs, hx, rfl, A0, hT, k⟩ := h
    obtain ⟨i, x, rfl⟩ := two hx
    obtain ⟨dx, hv⟩ := A0.van
    refine ⟨_, pss_cons (ps_if (pt_not (pt_val (pe_meth (pv 0) T.cl mH GH hr bH .nil pass0 (pa_cons (pv 1) pa_nil)))) (pss_one (ps_ret (pe_lst (pa_cons (pgi (by rfl) T.e2) pa_nil)))) pss_nil)
      (pss_cons (ps_if (pt_not (pt_val (pe_call GX hr (by rfl) gX kX bX .nil pass0 (pa_cons (pv 2) pa_nil)))) (pss_one (ps_ret (pe_lst (pa_cons (pgi (by rfl) T.e22) pa_nil)))) pss_nil)
      (pss_cons (ps_set (i := 3) scPos.nd rfl (.inl rfl) (pe_ix ix_list (pe_fld (pv 0) rfl) (pv 1) (fun _ _ => rfl)))
      (pss_cons (ps_set (i := 4) scPos.nd rfl (.inl rfl) (pe_callB call_abs (by rfl) T.gA (by decide +kernel) (pa_cons (pe_op op_sub (pv 2) (pe_fld (pv 3) rfl)) pa_nil)))
      (pss_cons (ps_fld (pv 3) (pv 2) rfl)
      (pss_one (ps_ret (pe_lst (pa_cons (pv 4) pa_nil)))))))), ?_⟩
    refine ⟨_, rfl, v, dx, _, rfl, hv, vanF_no _ _ (by decide) (by decide), _, rfl, v, l, as, st, i, rfl, A0, _, rfl, ?_⟩
    cases hi : Sr100.isShop st i with
    | false =>
      refine iteT ⟨by show 1 ≤ 16777216; decide, fun q hq => ?_⟩
      refine same_end (r := [-2]) A0 hT hq ?_ k
      unfold mk2 out Sr100.perform
      dsimp only
      rw [if_pos hi]
      rfl
    | true =>
      refine iteF ⟨_, rfl, x, rfl, _, rfl, ?_⟩
      have nh : ¬ Sr100.isShop st i = false := by rw [hi]; exact Bool.noConfusion
      cases hX : Sr100.isPosition x with
      | false =>
        refine iteT ⟨by show 1 ≤ 16777216; decide, fun q hq => ?_⟩
        refine same_end (r := [-22]) A0 hT hq ?_ k
        unfold mk2 out Sr100.perform
        dsimp only
        rw [if_neg nh, if_pos hX]
        rfl
      | true =>
        obtain ⟨j, rfl, hj⟩ := shop_nat hi
        obtain ⟨a, dy, ha, hya⟩ := A0.shops.get hj
        have hva : v ≠ a := fun z => ?hva
        case hva =>
          rw [← z, hv] at hya
          have e := congrArg (fun o => match o with | some (HO.ins _ _ fs) => fs.length | _ => 0) hya
          exact absurd e (by show ¬ 2 = 3; decide)
        have ho : out st (mk2 .setPosition [(j : Int), x]) = ({ st with shops := st.shops.set j { Sr100.shopAt st j with position := x } }, [((Sr100.distance x (Sr100.shopAt st j).position : Nat) : Int)]) := by
          unfold mk2 out Sr100.perform
          dsimp only
          rw [if_neg nh, if_neg (by rw [hX]; exact Bool.noConfusion)]
          rfl
        refine iteF ⟨_, rfl, v, CV, dx, _, _, rfl, hv, T.cl, T.nS, vanF_shops _ _, _, rfl, l, _, _, _, rfl, rfl, SqL.of A0.shops.lst, atI_nat (v := V.ref a) (by rw [List.getElem?_map, ha]; rfl), ?_⟩
        refine ⟨_, rfl, _, rfl, a, CS, dy, _, _, rfl, hya, T.S.cl, T.S.nP, shF_pos _, _, _, rfl, rfl, _, rfl, ?_⟩
        refine ⟨_, rfl, _, rfl, a, CS, dy, _, rfl, hya, T.S.cl, T.S.nP, (by show 3 < 1000; decide), ?_⟩
        rw [put_pos]
        have ed : (if x - (Sr100.shopAt st j).position < 0 then -(x - (Sr100.shopAt st j).position) else x - (Sr100.shopAt st j).position) = ((Sr100.distance x (Sr100.shopAt st j).position : Nat) : Int) := by
          unfold Sr100.distance
          split <;> omega
        rw [ed]
        exact ⟨_, rfl, by show 1 ≤ 16777216; decide, fun q hq => set_end A0 hT hj ha hya hva hq ho k⟩
end
end Br
end
section
set_option Elab.async false
set_option linter.all false
set_option maxRecDepth 100000
set_option maxHeartbeats 4000000
namespace Br
open PySem PySem.Spec PyProof.Rows L2 LamX NdefX BrK
theorem put_dep (l : Addr) (st : Sr100.Street) (d : Nat) : putF "departure" (nv d) (vanF l st) = vanF l { st with departure := d } := by
  unfold vanF
  exact putF_eq
theorem best_from (st : Sr100.Street) (r : List Nat) : ∀ (rs : List (List Nat)) (o : Option (List Nat)), rs.foldl (fun (best : Option (List Nat)) route => match best with
    | none => some route
    | some b => if Sr100.finishTime st route < Sr100.finishTime st b then some route else some b) o = some r → o = some r ∨ r ∈ rs
  | [], o, h => .inl h
  | q :: rs, o, h => by
    rw [List.foldl_cons] at h
    rcases best_from st r rs _ h with z | z
    · cases o with
      | none => exact .inr (by rw [Option.some.inj z]; exact List.mem_cons_self ..)
      | some b =>
        dsimp only at z
        split at z
        · exact .inr (by rw [Option.some.inj z]; exact List.mem_cons_self ..)
        · exact .inl z
    · exact .inr (List.mem_cons_of_mem _ z)
theorem best_mem {st : Sr100.Street} {xs r : List Nat} (h : Sr100.bestRoute st xs = some r) : r ∈ Sr100.sweepingRoutes st xs := by
  rcases best_from st r _ none h with z | z
  · cases z
  · exact (List.mem_filter.mp z).1
abbrev sAls : Stmt := inClass cVan 8
abbrev sAll : Stmt := inClass cVan 9
abbrev sEt : Stmt := inClass cVan 10
abbrev sEf : Stmt := inClass cVan 11
abbrev sBr : Stmt := inClass cVan 12
section
variable {P : Program} {w : World} {K : PySem.W.Frag} {mg : Str → Option Value} {base : Heap} {CV CS Pt : Addr}
theorem scDep : FnScope ["self", "departure", "old_departure"] ["self", "departure"] (defScope sDep) := ⟨rfl, rfl, rfl, by decide +kernel, rfl, by decide +kernel, by decide +kernel⟩
theorem ok_dep {f fX : Addr} {fd fdX : FuncData} (F : Fun K "set_departure" "Van.set_departure" sDep f fd) (T : TxtV K mg CV CS)
    (gX : mg "is_time" = some (.ref fX)) (kX : PySem.W.keepIn K (.ref fX) = true) (GX : FnOk P w K mg base CX0 1 fX fdX ["value"] (spIs Sr100.isTime)) (bX : Binds K fdX ["value"] []) :
    FnOk P w K mg base CX0 2 f fd ["self", "departure"] (spCall CV CS Pt 1 (mk1 .setDeparture)) := by
  refine F.ok scDep (fun vs H Q E h => ?_) (fun cdv A outer s H vs Q E hr h => ?_)
  · obtain ⟨_, _, _, _, xs, hx, rfl, _⟩ := h
    rw [List.length_cons, List.length_map, hx]
    rfl
  · obtain ⟨v, l, as, st, xs, hx, rfl, A0, hT, k⟩ := h
    obtain ⟨x, rfl⟩ := one hx
    obtain ⟨dx, hv⟩ := A0.van
    refine ⟨_, pss_cons (ps_if (pt_not (pt_val (pe_call GX hr (by rfl) gX kX bX .nil pass0 (pa_cons (pv 1) pa_nil)))) (pss_one (ps_ret (pe_lst (pa_cons (pgi (by rfl) T.e22) pa_nil)))) pss_nil)
      (pss_cons (ps_set (i := 2) scDep.nd rfl (.inl rfl) (pe_fld (pv 0) rfl))
      (pss_cons (ps_fld (pv 0) (pv 1) rfl)
      (pss_one (ps_ret (pe_lst (pa_cons (pv 2) pa_nil)))))), ?_⟩
    refine ⟨_, rfl, x, rfl, _, rfl, ?_⟩
    cases hX : Sr100.isTime x with
    | false =>
      refine iteT ⟨by show 1 ≤ 16777216; decide, fun q hq => ?_⟩
      refine same_end (r := [-22]) A0 hT hq ?_ k
      unfold mk1 out Sr100.perform
      dsimp only
      rw [if_pos hX]
      rfl
    | true =>
      have ho : out st (mk1 .setDeparture [x]) = ({ st with departure := x.toNat }, [(st.departure : Int)]) := by
        unfold mk1 out Sr100.perform
        dsimp only
        rw [if_neg (by rw [hX]; exact Bool.noConfusion)]
        rfl
      refine iteF ⟨_, rfl, v, CV, dx, _, _, rfl, hv, T.cl, T.nD, vanF_dep _ _, ?_⟩
      refine ⟨_, rfl, _, rfl, v, CV, dx, _, rfl, hv, T.cl, T.nD, (by show 2 < 1000; decide), ?_⟩
      have ep : putF "departure" (.int x) (vanF l st) = vanF l { st with departure := x.toNat } := by
        have z := put_dep l st x.toNat
        unfold nv at z
        rw [time_nat hX] at z
        exact z
      rw [ep]
      refine ⟨_, rfl, by show 1 ≤ 16777216; decide, fun q hq => ?_⟩
      have qv : q ≠ v := fun z => by rw [z, upd_same] at hq; cases hq
      have hq2 : H q = none := by rw [upd_ne qv] at hq; exact hq
      show Q (.ref q) (upd (upd H v (.ins CV dx (vanF l { st with departure := x.toNat }))) q (.lst [nv st.departure]))
      have old : ∀ b o, b ≠ v → H b = some o → upd (upd H v (.ins CV dx (vanF l { st with departure := x.toNat }))) q (.lst [nv st.departure]) b = some o := fun b o hb e => by
        rw [upd_ne (ne_of_none e hq2), upd_ne hb]
        exact e
      have stp : StepL l H (upd (upd H v (.ins CV dx (vanF l { st with departure := x.toNat }))) q (.lst [nv st.departure])) := fun b o _ hi e => old b o (fun z => by subst z; exact hi CV dx _ (Option.some.inj (e.symm.trans hv))) e
      refine k _ q as (.of hq2) stp.keeps (stp.tabs A0.shops.lst hT) (by rw [upd_same, ho]; rfl) ?_
      rw [ho]
      refine ⟨⟨dx, by rw [upd_ne (Ne.symm qv), upd_same]⟩, ⟨old l _ (ne_of A0.shops.lst hv fun z => by cases z) A0.shops.lst, A0.shops.len, A0.shops.nd, fun j a s ha hs => ?_⟩, A0.seven⟩
      obtain ⟨dy, hy⟩ := A0.shops.at_ j a s ha hs
      refine ⟨dy, old a _ (fun z => ?_) hy⟩
      rw [z, hv] at hy
      have e := congrArg (fun o => match o with | some (HO.ins _ _ fs) => fs.length | _ => 0) hy
      exact absurd e (by show ¬ 2 = 3; decide)
/-! ### the best route to all shops -/
def spAls (CV CS : Addr) : Sp := fun vs H Q _ => ∃ (v l : Addr) (as : List Addr) (st : Sr100.Street), vs = [.ref v] ∧ VanAt CV CS H v l as st ∧ ∀ (H' : Hp) (p : Addr), Same H H' → H' p = some (.lst (nats (Sr100.allShops st))) → Q (.ref p) H'
theorem scAls : FnScope ["self"] ["self"] (defScope sAls) := ⟨rfl, rfl, rfl, by decide +kernel, rfl, by decide +kernel, by decide +kernel⟩
theorem rg_nats (n : Nat) : rgV 0 (n : Int) = nats (List.range n) := by
  unfold rgV nats nv
  rw [show ((n : Int) - 0).toNat = n by omega]
  exact List.map_congr_left fun i _ => by rw [Int.zero_add]
theorem ok_als {f : Addr} {fd : FuncData} (F : Fun K "all_shops" "Van.all_shops" sAls f fd) (T : TxtV K mg CV CS) : FnOk P w K mg base CX0 1 f fd ["self"] (spAls CV CS) := by
  refine F.ok scAls (fun vs H Q E h => ?_) (fun cdv A outer s H vs Q E hr h => ?_)
  · obtain ⟨_, _, _, _, rfl, _⟩ := h
    rfl
  · obtain ⟨v, l, as, st, rfl, A0, k⟩ := h
    obtain ⟨dx, hv⟩ := A0.van
    refine ⟨_, pss_one (ps_ret (pe_listRg (by rfl) (by rfl) T.gI (prg_1 (by rfl) T.gR (pe_callB call_len_seq (by rfl) T.gL PySem.boot_len (pa_cons (pe_fld (pv 0) rfl) pa_nil))))), ?_⟩
    refine ⟨_, rfl, v, CV, dx, _, _, rfl, hv, T.cl, T.nS, vanF_shops _ _, l, _, rfl, .inl (SqL.of A0.shops.lst), _, rfl, ?_⟩
    have h7 := A0.seven
    have el : (as.map V.ref).length = st.shops.length := by rw [List.length_map, A0.shops.len]
    rw [el]
    refine ⟨.of_le (by omega) (by omega) (by omega) (by omega), fun q hq => ?_⟩
    rw [rg_nats]
    exact k _ q (same_new (Same.refl _) hq) upd_same
def spAll (CV CS Pt : Addr) : Sp := fun vs H Q _ => ∃ (v l : Addr) (as : List Addr) (st : Sr100.Street), vs = [.ref v] ∧ VanAt CV CS H v l as st ∧ Tabs (TbL Pt) H ∧
  ∀ (H' : Hp) (b : V), ExtN H H' → Tabs (TbL Pt) H' → BestAt H' b (told st (Sr100.bestRoute st (Sr100.allShops st))) → Q b H'
theorem scAll : FnScope ["self"] ["self"] (defScope sAll) := ⟨rfl, rfl, rfl, by decide +kernel, rfl, by decide +kernel, by decide +kernel⟩
theorem all_len (st : Sr100.Street) : (Sr100.allShops st).length = st.shops.length := List.length_range
theorem all_lt (st : Sr100.Street) : ∀ i ∈ Sr100.allShops st, i < st.shops.length := fun i hi => List.mem_range.mp hi
theorem all_pair (st : Sr100.Street) : (Sr100.allShops st).Pairwise (· < ·) := List.pairwise_lt_range
theorem ok_all {f fB fA : Addr} {fd fdB fdA : FuncData} (F : Fun K "best_route_to_all" "Van.best_route_to_all" sAll f fd) (T : TxtV K mg CV CS) (mA : Meth K CV "all_shops" fA) (GA : FnOk P w K mg base CX0 1 fA fdA ["self"] (spAls CV CS)) (bA : Binds K fdA ["self"] [])
    (gB : mg "best_route_to" = some (.ref fB)) (kB : PySem.W.keepIn K (.ref fB) = true) (GB : FnOk P w K mg base CX0 6 fB fdB ["shops", "chosen", "departure"] (spBe K CS Pt)) (bB : Binds K fdB ["shops", "chosen", "departure"] []) :
    FnOk P w K mg base CX0 7 f fd ["self"] (spAll CV CS Pt) := by
  refine F.ok scAll (fun vs H Q E h => ?_) (fun cdv A outer s H vs Q E hr h => ?_)
  · obtain ⟨_, _, _, _, rfl, _⟩ := h
    rfl
  · obtain ⟨v, l, as, st, rfl, A0, hT, k⟩ := h
    obtain ⟨dx, hv⟩ := A0.van
    have hr1 : Room 1 _ := hr.mono (by decide)
    refine ⟨_, pss_one (ps_ret (pe_call GB hr (by rfl) gB kB bB .nil pass0 (pa_cons (pe_fld (pv 0) rfl) (pa_cons (pe_meth0 (pv 0) T.cl mA GA hr1 bA .nil pass0) (pa_cons (pe_fld (pv 0) rfl) pa_nil))))), ?_⟩
    refine ⟨_, rfl, v, CV, dx, _, _, rfl, hv, T.cl, T.nS, vanF_shops _ _, _, rfl, v, dx, _, rfl, hv, vanF_no _ _ (by decide) (by decide), v, l, as, st, rfl, A0, fun H1 q s1 hq => ?_⟩
    refine ⟨_, rfl, v, CV, dx, _, _, rfl, s1 _ _ hv, T.cl, T.nD, vanF_dep _ _, ?_⟩
    refine ⟨l, q, as, st, Sr100.allShops st, rfl, A0.shops.ext (.of s1), SqL.of hq, all_pair st, all_lt st, by rw [all_len]; exact A0.seven, hT.ext s1, fun H' b e T' hB => k H' b ((ExtN.of s1).trans e) T' hB⟩
/-- an answer that leaves all but the tables as it was -/
theorem ext_end {CV CS P v l p : Addr} {as : List Addr} {st : Sr100.Street} {H H2 : Hp} {c : Sr100.Call} {r : List Int} {Q : VK} (A : VanAt CV CS H v l as st) (e : ExtN H H2) (hT : Tabs (TbL P) H2) (hp : H2 p = none) (ho : out st c = (st, r))
    (k : ∀ (H' : Hp) (a : Addr) (as' : List Addr), NewL H a → Keeps l H H' → Tabs (TbL P) H' → H' a = some (.lst ((out st c).2.map V.int)) → VanAt CV CS H' v l as' (out st c).1 → Q (.ref a) H') : Q (.ref p) (upd H2 p (.lst (r.map V.int))) :=
  same_end (A.ext e) hT hp ho fun H' a as' n1 k1 t1 h1 v1 => k H' a as' (n1.ext e) ((Keeps.of e).trans k1) t1 h1 v1
/-- an answer that stands already -/
theorem ext_fin {CV CS P v l a : Addr} {as : List Addr} {st : Sr100.Street} {H H2 : Hp} {c : Sr100.Call} {r : List Int} {Q : VK} (A : VanAt CV CS H v l as st) (hn : NewL H a) (e : ExtN H H2) (hT : Tabs (TbL P) H2) (ha : H2 a = some (.lst (r.map V.int))) (ho : out st c = (st, r))
    (k : ∀ (H' : Hp) (a : Addr) (as' : List Addr), NewL H a → Keeps l H H' → Tabs (TbL P) H' → H' a = some (.lst ((out st c).2.map V.int)) → VanAt CV CS H' v l as' (out st c).1 → Q (.ref a) H') : Q (.ref a) H2 :=
  k H2 a as hn (.of e) hT (by rw [ho]; exact ha) (by rw [ho]; exact A.ext e)
/-! ### earliest_finish_to -/
def efc : Option Nat → Int
  | none => -33
  | some t => (t : Int)
theorem time_code (o : Option Nat) : (Sr100.timeResult o).code :: (Sr100.timeResult o).values = [efc o] := by
  cases o <;> rfl
def spEt (K : PySem.W.Frag) (CV CS Pt : Addr) : Sp := fun vs H Q _ => ∃ (v l c : Addr) (as : List Addr) (st : Sr100.Street) (xs : List Nat), vs = [.ref v, .ref c] ∧ VanAt CV CS H v l as st ∧ SqL K H c (nats xs) ∧ xs.Pairwise (· < ·) ∧ (∀ i ∈ xs, i < st.shops.length) ∧ xs.length ≤ 7 ∧ Tabs (TbL Pt) H ∧
  ∀ (H' : Hp) (a : Addr), NewL H a → ExtN H H' → Tabs (TbL Pt) H' → H' a = some (.lst ([efc (Sr100.earliestFinish st xs)].map V.int)) → Q (.ref a) H'
theorem scEt : FnScope ["self", "chosen", "best"] ["self", "chosen"] (defScope sEt) := ⟨rfl, rfl, rfl, by decide +kernel, rfl, by decide +kernel, by decide +kernel⟩
theorem ok_et {f fB : Addr} {fd fdB : FuncData} (F : Fun K "earliest_finish_to" "Van.earliest_finish_to" sEt f fd) (T : TxtV K mg CV CS)
    (gB : mg "best_route_to" = some (.ref fB)) (kB : PySem.W.keepIn K (.ref fB) = true) (GB : FnOk P w K mg base CX0 6 fB fdB ["shops", "chosen", "departure"] (spBe K CS Pt)) (bB : Binds K fdB ["shops", "chosen", "departure"] []) :
    FnOk P w K mg base CX0 7 f fd ["self", "chosen"] (spEt K CV CS Pt) := by
  refine F.ok scEt (fun vs H Q E h => ?_) (fun cdv A outer s H vs Q E hr h => ?_)
  · obtain ⟨_, _, _, _, _, _, rfl, _⟩ := h
    rfl
  · obtain ⟨v, l, c, as, st, xs, rfl, A0, hs, hx, hb, h7, hT, k⟩ := h
    obtain ⟨dx, hv⟩ := A0.van
    refine ⟨_, pss_cons (ps_set (i := 2) scEt.nd rfl (.inl rfl) (pe_call GB hr (by rfl) gB kB bB .nil pass0 (pa_cons (pe_fld (pv 0) rfl) (pa_cons (pv 1) (pa_cons (pe_fld (pv 0) rfl) pa_nil)))))
      (pss_cons (ps_if (pt_cmpR op_isN (pv 2) pe_non (nomark _)) (pss_one (ps_ret (pe_lst (pa_cons (pgi (by rfl) T.e33) pa_nil)))) pss_nil)
      (pss_one (ps_ret (pe_lst (pa_cons (pe_ix ix_tup (pv 2) pe_int (fun _ _ => rfl)) pa_nil))))), ?_⟩
    refine ⟨_, rfl, v, CV, dx, _, _, rfl, hv, T.cl, T.nS, vanF_shops _ _, _, rfl, _, rfl, v, CV, dx, _, _, rfl, hv, T.cl, T.nD, vanF_dep _ _, ?_⟩
    refine ⟨l, c, as, st, xs, rfl, A0.shops, hs, hx, hb, h7, hT, fun H2 b e2 T2 hB => ?_⟩
    cases hbr : Sr100.bestRoute st xs with
    | none =>
      rw [hbr] at hB
      obtain rfl : b = .non := hB
      refine ⟨_, rfl, rfl, _, rfl, ite2 (fun _ => ?_) fun z => absurd (decide_eq_true rfl) z⟩
      refine ⟨by show 1 ≤ 16777216; decide, fun q hq => k _ q ((NewL.of hq).ext e2) (ext_new e2 hq) (T2.ext (same_new (Same.refl _) hq)) ?_⟩
      unfold Sr100.earliestFinish
      rw [hbr]
      exact upd_same
    | some r =>
      rw [hbr] at hB
      obtain ⟨p, q, rfl, hp, hq⟩ := hB
      refine ⟨_, rfl, rfl, _, rfl, ite2 (fun z => nomatch of_decide_eq_true z) fun _ => ?_⟩
      refine ⟨_, rfl, p, _, _, _, rfl, rfl, SqT.of hp, atI_nat (j := 0) rfl, by show 1 ≤ 16777216; decide, fun q hq => k _ q ((NewL.of hq).ext e2) (ext_new e2 hq) (T2.ext (same_new (Same.refl _) hq)) ?_⟩
      unfold Sr100.earliestFinish
      rw [hbr]
      exact upd_same
theorem scEf : FnScope ["self"] ["self"] (defScope sEf) := ⟨rfl, rfl, rfl, by decide +kernel, rfl, by decide +kernel, by decide +kernel⟩
theorem ok_ef {f fA fT : Addr} {fd fdA fdT : FuncData} (F : Fun K "earliest_finish" "Van.earliest_finish" sEf f fd) (T : TxtV K mg CV CS) (mA : Meth K CV "all_shops" fA) (GA : FnOk P w K mg base CX0 1 fA fdA ["self"] (spAls CV CS)) (bA : Binds K fdA ["self"] [])
    (mT : Meth K CV "earliest_finish_to" fT) (GT : FnOk P w K mg base CX0 7 fT fdT ["self", "chosen"] (spEt K CV CS Pt)) (bT : Binds K fdT ["self", "chosen"] []) :
    FnOk P w K mg base CX0 8 f fd ["self"] (spCall CV CS Pt 0 fun _ => .earliestFinish) := by
  refine F.ok scEf (fun vs H Q E h => ?_) (fun cdv A outer s H vs Q E hr h => ?_)
  · obtain ⟨_, _, _, _, xs, hx, rfl, _⟩ := h
    rw [List.length_cons, List.length_map, hx]
    rfl
  · obtain ⟨v, l, as, st, xs, hx, rfl, A0, hT, k⟩ := h
    obtain rfl : xs = [] := List.eq_nil_of_length_eq_zero hx
    obtain ⟨dx, hv⟩ := A0.van
    have hr1 : Room 1 _ := hr.mono (by decide)
    refine ⟨_, pss_one (ps_ret (pe_meth (pv 0) T.cl mT GT hr bT .nil pass0 (pa_cons (pe_meth0 (pv 0) T.cl mA GA hr1 bA .nil pass0) pa_nil))), ?_⟩
    refine ⟨_, rfl, v, dx, _, rfl, hv, vanF_no _ _ (by decide) (by decide), _, rfl, v, dx, _, rfl, hv, vanF_no _ _ (by decide) (by decide), v, l, as, st, rfl, A0, fun H1 q s1 hq => ?_⟩
    refine ⟨v, l, q, as, st, Sr100.allShops st, rfl, A0.ext (.of s1), SqL.of hq, all_pair st, all_lt st, by rw [all_len]; exact A0.seven, hT.ext s1, fun H2 a n2 e2 T2 ha => ?_⟩
    refine ext_fin (r := [efc (Sr100.earliestFinish st (Sr100.allShops st))]) A0 (n2.ext (.of s1)) ((ExtN.of s1).trans e2) T2 ha ?_ k
    unfold out Sr100.perform
    dsimp only
    rw [time_code]
theorem scBr : FnScope ["self", "best"] ["self"] (defScope sBr) := ⟨rfl, rfl, rfl, by decide +kernel, rfl, by decide +kernel, by decide +kernel⟩
theorem ok_br {f fA : Addr} {fd fdA : FuncData} (F : Fun K "best_route" "Van.best_route" sBr f fd) (T : TxtV K mg CV CS) (mA : Meth K CV "best_route_to_all" fA) (GA : FnOk P w K mg base CX0 7 fA fdA ["self"] (spAll CV CS Pt)) (bA : Binds K fdA ["self"] []) :
    FnOk P w K mg base CX0 8 f fd ["self"] (spCall CV CS Pt 0 fun _ => .bestRoute) := by
  refine F.ok scBr (fun vs H Q E h => ?_) (fun cdv A outer s H vs Q E hr h => ?_)
  · obtain ⟨_, _, _, _, xs, hx, rfl, _⟩ := h
    rw [List.length_cons, List.length_map, hx]
    rfl
  · obtain ⟨v, l, as, st, xs, hx, rfl, A0, hT, k⟩ := h
    obtain rfl : xs = [] := List.eq_nil_of_length_eq_zero hx
    obtain ⟨dx, hv⟩ := A0.van
    refine ⟨_, pss_cons (ps_set (i := 1) scBr.nd rfl (.inl rfl) (pe_meth0 (pv 0) T.cl mA GA hr bA .nil pass0))
      (pss_cons (ps_if (pt_cmpR op_isN (pv 1) pe_non (nomark _)) (pss_one (ps_ret (pe_lst (pa_cons (pgi (by rfl) T.e33) pa_nil)))) pss_nil)
      (pss_one (ps_ret (pe_op op_cat (pe_lst (pa_cons (pe_ix ix_tup (pv 1) pe_int (fun _ _ => rfl)) pa_nil)) (pe_ix ix_tup (pv 1) pe_int (fun _ _ => rfl)))))), ?_⟩
    refine ⟨_, rfl, v, dx, _, rfl, hv, vanF_no _ _ (by decide) (by decide), v, l, as, st, rfl, A0, hT, fun H2 b e2 T2 hB => ?_⟩
    cases hb : Sr100.bestRoute st (Sr100.allShops st) with
    | none =>
      rw [hb] at hB
      obtain rfl : b = .non := hB
      refine ⟨_, rfl, rfl, _, rfl, ite2 (fun _ => ?_) fun z => absurd (decide_eq_true rfl) z⟩
      refine ⟨by show 1 ≤ 16777216; decide, fun q hq => ext_end (r := [-33]) A0 e2 T2 hq ?_ k⟩
      unfold out Sr100.perform
      dsimp only
      rw [hb]
      rfl
    | some r =>
      rw [hb] at hB
      obtain ⟨p, q, rfl, hp, hq⟩ := hB
      refine ⟨_, rfl, rfl, _, rfl, ite2 (fun z => nomatch of_decide_eq_true z) fun _ => ?_⟩
      refine ⟨_, rfl, p, _, _, _, rfl, rfl, SqT.of hp, atI_nat (j := 0) rfl, by show 1 ≤ 16777216; decide, fun a ha => ?_⟩
      have s1 : Same H2 (upd H2 a (.lst [nv (Sr100.finishTime st r)])) := fun b o e => by rw [upd_ne (ne_of_none e ha)]; exact e
      have hlen : (nats r).length ≤ 7 := by
        have z := (sweep_mem st _ List.pairwise_lt_range r (best_mem hb)).1
        have z2 : (Sr100.allShops st).length = st.shops.length := List.length_range
        have h7 := A0.seven
        rw [nats_len]
        unfold Sr100.allShops at z2
        omega
      refine ⟨_, rfl, p, _, _, _, rfl, rfl, SqT.of (s1 _ _ hp), atI_nat (j := 1) rfl, a, q, _, _, rfl, rfl, upd_same, s1 _ _ hq, ?_, fun c hc => ?_⟩
      · show 1 + (nats r).length ≤ 16777216
        omega
      · have en : [nv (Sr100.finishTime st r)] ++ nats r = ((Sr100.finishTime st r : Int) :: SrCommon.natsToInts r).map V.int := by
          rw [List.map_cons]
          exact congrArg (List.cons _) (zs_nats r).symm
        show Q (.ref c) (upd (upd H2 a (.lst [nv (Sr100.finishTime st r)])) c (.lst ([nv (Sr100.finishTime st r)] ++ nats r)))
        rw [en]
        refine ext_end (r := (Sr100.finishTime st r : Int) :: SrCommon.natsToInts r) A0 (e2.trans (.of s1)) (T2.ext s1) hc ?_ k
        unfold out Sr100.perform
        dsimp only
        rw [hb]
end
end Br
end
section
set_option Elab.async false
set_option linter.all false
set_option maxRecDepth 100000
set_option maxHeartbeats 4000000
namespace Br
open PySem PySem.Spec PyProof.Rows L2 LamX NdefX BrK
abbrev sIr : Stmt := inClass cVan 13
abbrev sAt : Stmt := inClass cVan 14
abbrev sCh : Stmt := inClass cVan 15
def tIr (CV CS : Addr) : TE := tMeth CV "has_shop" (spHas CV CS) [] E0 (tVar 0) (tCons (tVar 2) tNil)
def spIr (K : PySem.W.Frag) (CV CS : Addr) : Sp := fun vs H Q _ => ∃ (v l c : Addr) (as : List Addr) (st : Sr100.Street) (ns : List Int), vs = [.ref v, .ref c] ∧ VanAt CV CS H v l as st ∧ SqL K H c (ns.map V.int) ∧ ns.length ≤ 1000 ∧
  ∀ (H' : Hp), Same H H' → Q (.bl (Sr100.isRoute st ns)) H'
/-- the promise of a method that is given a route -/
def spRoute (K : PySem.W.Frag) (CV CS P : Addr) (mk : List Int → Sr100.Call) : Sp := fun vs H Q _ => ∃ (v l c : Addr) (as : List Addr) (st : Sr100.Street) (ns : List Int), vs = [.ref v, .ref c] ∧ VanAt CV CS H v l as st ∧ SqL K H c (ns.map V.int) ∧ ns.length ≤ 1000 ∧ Tabs (TbL P) H ∧
  ∀ (H' : Hp) (a : Addr) (as' : List Addr), NewL H a → Keeps l H H' → Tabs (TbL P) H' → H' a = some (.lst ((out st (mk ns)).2.map V.int)) → VanAt CV CS H' v l as' (out st (mk ns)).1 → Q (.ref a) H'
theorem ints_get {ns : List Int} {i : Nat} {x : V} (h : (ns.map V.int)[i]? = some x) : ∃ n, ns[i]? = some n ∧ x = .int n := by
  rw [List.getElem?_map] at h
  cases q : ns[i]? with
  | none => rw [q] at h; cases h
  | some n => rw [q] at h; exact ⟨n, rfl, (Option.some.inj h).symm⟩
theorem route_nats {st : Sr100.Street} {ns : List Int} (h : Sr100.isRoute st ns = true) : ns.map V.int = nats (SrCommon.intsToNats ns) ∧ (∀ i ∈ SrCommon.intsToNats ns, i < st.shops.length) ∧ (SrCommon.intsToNats ns).length = ns.length := by
  unfold Sr100.isRoute at h
  rw [Bool.and_eq_true] at h
  obtain ⟨e, hb⟩ := nats_of (n := st.shops.length) (ns := ns) h.2
  refine ⟨?_, hb, by unfold SrCommon.intsToNats; rw [List.length_map]⟩
  have z := zs_nats (SrCommon.intsToNats ns)
  unfold zs at z
  rw [e] at z
  exact z
section
variable {P : Program} {w : World} {K : PySem.W.Frag} {mg : Str → Option Value} {base : Heap} {CV CS Pt : Addr}
theorem scIr : FnScope ["self", "route", "i"] ["self", "route"] (defScope sIr) := ⟨rfl, rfl, rfl, by decide +kernel, rfl, by decide +kernel, by decide +kernel⟩
theorem ok_ir {f fH : Addr} {fd fdH : FuncData} (F : Fun K "is_route" "Van.is_route" sIr f fd) (T : TxtV K mg CV CS) (gA : mg "all" = none) (gS : mg "set" = none)
    (mH : Meth K CV "has_shop" fH) (GH : FnOk P w K mg base CX0 1 fH fdH ["self", "i"] (spHas CV CS)) (bH : Binds K fdH ["self", "i"] []) :
    FnOk P w K mg base CX0 2 f fd ["self", "route"] (spIr K CV CS) := by
  refine F.ok scIr (fun vs H Q E h => ?_) (fun cdv A outer s H vs Q E hr h => ?_)
  · obtain ⟨_, _, _, _, _, _, rfl, _⟩ := h
    rfl
  · obtain ⟨v, l, c, as, st, ns, rfl, A0, hs, h7, k⟩ := h
    obtain ⟨dx, hv⟩ := A0.van
    refine ⟨_, pss_one (ps_ret (pe_and (pe_callB (cr_all rfl) (by rfl) gA (by decide +kernel) (pa_cons
        (pe_lc (own := [("i", 2)]) (g := gName 2) (tt := tYes) (te := tIr CV CS) (by rfl) scIr.nd (pi_list (pv 1)) (blkOk_by (N := ["self", "route", "i"]) (sc := defScope sIr) (by decide +kernel))
          (fun _ _ _ _ _ => pg_name (i := 2) scIr.nd rfl (.inl rfl)) (fun _ _ _ _ _ => pts_nil)
          (fun _ _ _ _ _ => pe_meth (pv 0) T.cl mH GH hr bH .nil pass0 (pa_cons (pv 2) pa_nil))) pa_nil))
      (pe_one (pe_cmpR op_eq (pe_lenSetA (by rfl) T.gL (by rfl) gS (pv 1)) (pe_callB call_len_seq (by rfl) T.gL PySem.boot_len (pa_cons (pv 1) pa_nil)) (nomark _))))), ?_⟩
    refine ⟨_, rfl, c, rfl, ⟨_, hs⟩, fun D nD => lc_list (K := K) (a := c) (xs := ns.map V.int) (fun i Hi => Same H Hi ∧ Hi D = some (.lst (((ns.take i).map (Sr100.isShop st)).map V.bl)))
      ⟨same_new (Same.refl _) nD, upd_same⟩ (fun i Hi _ h => h.1.seq hs) ?_ ?_⟩
    · rintro i x Hi hi ⟨sH, hD⟩
      obtain ⟨n, hn, rfl⟩ := ints_get hi
      refine ⟨rfl, ?_⟩
      unfold tYes
      refine iteT ?_
      refine ⟨_, rfl, v, dx, _, rfl, sH _ _ hv, vanF_no _ _ (by decide) (by decide), _, rfl, v, l, as, st, n, rfl, A0.ext (.of sH), ?_⟩
      have hil : i < ns.length := (List.getElem?_eq_some_iff.mp hn).1
      refine ⟨_, hD, ?_, ?_, ?_⟩
      · rw [List.length_map, List.length_map, List.length_take]
        exact Nat.lt_of_le_of_lt (show _ ≤ 1000 by omega) (by decide)
      · intro b u e
        rw [upd_ne (ne_of_none e nD)]
        exact sH _ _ e
      · rw [upd_same, List.take_add_one, hn, List.map_append, List.map_append]
        rfl
    · rintro Hi ⟨sH, hD⟩
      rw [List.length_map, List.take_length] at hD
      refine ⟨D, _, rfl, SqL.of hD, _, rfl, ?_⟩
      have e1 : (ns.map (Sr100.isShop st)).all id = ns.all (Sr100.isShop st) := by rw [List.all_map]; rfl
      rw [e1]
      have e2 : Sr100.isRoute st ns = (decide ns.Nodup && ns.all (Sr100.isShop st)) := rfl
      refine ite2 (fun c1 => ?_) (fun c1 => ?_)
      · refine ⟨_, rfl, c, ns, rfl, sH.seq hs, by omega, fun m hm => ?_⟩
        refine ⟨_, rfl, c, _, rfl, .inl (sH.seq hs), rfl, ?_⟩
        rw [List.length_map]
        have z := k Hi sH
        rw [e2, c1, Bool.and_true] at z
        have e3 : decide (V.int (m : Int) = V.int (ns.length : Int)) = decide ns.Nodup := by
          refine decide_eq_decide.mpr ⟨fun q => hm.mp (by have := V.int.inj q; omega), fun q => congrArg V.int (by have := hm.mpr q; omega)⟩
        rw [e3]
        exact z
      · have z := k Hi sH
        rw [e2, Bool.eq_false_iff.mpr c1, Bool.and_false] at z
        exact z
theorem scAt : FnScope ["self", "route"] ["self", "route"] (defScope sAt) := ⟨rfl, rfl, rfl, by decide +kernel, rfl, by decide +kernel, by decide +kernel⟩
theorem ok_at {f fI fT : Addr} {fd fdI fdT : FuncData} (F : Fun K "arrival_times" "Van.arrival_times" sAt f fd) (T : TxtV K mg CV CS)
    (mI : Meth K CV "is_route" fI) (GI : FnOk P w K mg base CX0 2 fI fdI ["self", "route"] (spIr K CV CS)) (bI : Binds K fdI ["self", "route"] [])
    (gT : mg "times_along" = some (.ref fT)) (kT : PySem.W.keepIn K (.ref fT) = true) (GT : FnOk P w K mg base CX0 1 fT fdT ["shops", "route", "departure"] (spTi K CS Pt)) (bT : Binds K fdT ["shops", "route", "departure"] []) :
    FnOk P w K mg base CX0 3 f fd ["self", "route"] (spRoute K CV CS Pt .arrivalTimes) := by
  refine F.ok scAt (fun vs H Q E h => ?_) (fun cdv A outer s H vs Q E hr h => ?_)
  · obtain ⟨_, _, _, _, _, _, rfl, _⟩ := h
    rfl
  · obtain ⟨v, l, c, as, st, ns, rfl, A0, hs, h7, hT, k⟩ := h
    obtain ⟨dx, hv⟩ := A0.van
    have hr1 : Room 1 _ := hr.mono (by decide)
    refine ⟨_, pss_cons (ps_if (pt_not (pt_val (pe_meth (pv 0) T.cl mI GI hr bI .nil pass0 (pa_cons (pv 1) pa_nil)))) (pss_one (ps_ret (pe_lst (pa_cons (pgi (by rfl) T.e22) pa_nil)))) pss_nil)
      (pss_one (ps_ret (pe_op op_cat (pe_lst (pa_cons (pe_callB call_len_seq (by rfl) T.gL PySem.boot_len (pa_cons (pv 1) pa_nil)) pa_nil)) (pe_call GT hr1 (by rfl) gT kT bT .nil pass0 (pa_cons (pe_fld (pv 0) rfl) (pa_cons (pv 1) (pa_cons (pe_fld (pv 0) rfl) pa_nil))))))), ?_⟩
    refine ⟨_, rfl, v, dx, _, rfl, hv, vanF_no _ _ (by decide) (by decide), _, rfl, v, l, c, as, st, ns, rfl, A0, hs, h7, fun H1 s1 => ⟨_, rfl, ?_⟩⟩
    have A1 := A0.ext (.of s1)
    cases hX : Sr100.isRoute st ns with
    | false =>
      refine iteT ⟨by show 1 ≤ 16777216; decide, fun q hq => ?_⟩
      refine ext_end (r := [-22]) A0 (.of s1) (hT.ext s1) hq ?_ k
      unfold out Sr100.perform
      dsimp only
      rw [if_pos hX]
      rfl
    | true =>
      obtain ⟨en, hb, hln⟩ := route_nats hX
      refine iteF ⟨_, rfl, c, _, rfl, .inl (s1.seq hs), by show 1 ≤ 16777216; decide, fun q hq => ?_⟩
      have s2 : Same H (upd H1 q (.lst [.int ((ns.map V.int).length : Int)])) := same_new s1 hq
      have hq2 : upd H1 q (.lst [.int ((ns.map V.int).length : Int)]) q = some (.lst [.int ((ns.map V.int).length : Int)]) := upd_same
      generalize upd H1 q (.lst [.int ((ns.map V.int).length : Int)]) = H2 at s2 hq2
      have A2 := A0.ext (.of s2)
      refine ⟨_, rfl, v, CV, dx, _, _, rfl, s2 _ _ hv, T.cl, T.nS, vanF_shops _ _, _, rfl, _, rfl, v, CV, dx, _, _, rfl, s2 _ _ hv, T.cl, T.nD, vanF_dep _ _, ?_⟩
      refine ⟨l, c, as, st, SrCommon.intsToNats ns, rfl, A2.shops, by rw [← en]; exact s2.seq hs, hb, by omega, fun H3 t s3 nt ht => ?_⟩
      refine ⟨q, t, _, _, rfl, rfl, s3 _ _ hq2, ht, ?_, fun p hp => ?_⟩
      · rw [nats_len]
        unfold Sr100.arrivalTimes
        rw [arr_take]
        show 1 + (SrCommon.intsToNats ns).length ≤ 16777216
        omega
      · have er : [V.int ((ns.map V.int).length : Int)] ++ nats (Sr100.arrivalTimes st (SrCommon.intsToNats ns)) = ((ns.length : Int) :: SrCommon.natsToInts (Sr100.arrivalTimes st (SrCommon.intsToNats ns))).map V.int := by
          rw [List.map_cons, List.length_map]
          exact congrArg (List.cons _) (zs_nats _).symm
        show Q (.ref p) (upd H3 p (.lst ([V.int ((ns.map V.int).length : Int)] ++ nats (Sr100.arrivalTimes st (SrCommon.intsToNats ns)))))
        rw [er]
        refine ext_end (r := (ns.length : Int) :: SrCommon.natsToInts (Sr100.arrivalTimes st (SrCommon.intsToNats ns))) A0 (.of (s2.trans s3)) (hT.ext (s2.trans s3)) hp ?_ k
        unfold out Sr100.perform
        dsimp only
        rw [if_neg (by rw [hX]; exact Bool.noConfusion)]
theorem scCh : FnScope ["self", "route", "times", "on_time"] ["self", "route"] (defScope sCh) := ⟨rfl, rfl, rfl, by decide +kernel, rfl, by decide +kernel, by decide +kernel⟩
theorem ok_ch {f fI fT fO fF fL : Addr} {fd fdI fdT fdO fdF fdL : FuncData} (F : Fun K "check_route" "Van.check_route" sCh f fd) (T : TxtV K mg CV CS)
    (mI : Meth K CV "is_route" fI) (GI : FnOk P w K mg base CX0 2 fI fdI ["self", "route"] (spIr K CV CS)) (bI : Binds K fdI ["self", "route"] [])
    (gT : mg "times_along" = some (.ref fT)) (kT : PySem.W.keepIn K (.ref fT) = true) (GT : FnOk P w K mg base CX0 1 fT fdT ["shops", "route", "departure"] (spTi K CS Pt)) (bT : Binds K fdT ["shops", "route", "departure"] [])
    (gO : mg "is_on_time" = some (.ref fO)) (kO : PySem.W.keepIn K (.ref fO) = true) (GO : FnOk P w K mg base CX0 1 fO fdO ["shops", "route", "times"] (spOn K CS Pt)) (bO : Binds K fdO ["shops", "route", "times"] [])
    (gF : mg "finish_of" = some (.ref fF)) (kF : PySem.W.keepIn K (.ref fF) = true) (GF : FnOk P w K mg base CX0 1 fF fdF ["times", "departure"] (spFi K)) (bF : Binds K fdF ["times", "departure"] [])
    (gL : mg "loaves_of" = some (.ref fL)) (kL : PySem.W.keepIn K (.ref fL) = true) (GL : FnOk P w K mg base CX0 1 fL fdL ["shops", "chosen"] (spLo K CS)) (bL : Binds K fdL ["shops", "chosen"] []) :
    FnOk P w K mg base CX0 3 f fd ["self", "route"] (spRoute K CV CS Pt .checkRoute) := by
  refine F.ok scCh (fun vs H Q E h => ?_) (fun cdv A outer s H vs Q E hr h => ?_)
  · obtain ⟨_, _, _, _, _, _, rfl, _⟩ := h
    rfl
  · obtain ⟨v, l, c, as, st, ns, rfl, A0, hs, h7, hT, k⟩ := h
    obtain ⟨dx, hv⟩ := A0.van
    have hr1 : Room 1 _ := hr.mono (by decide)
    refine ⟨_, pss_cons (ps_if (pt_not (pt_val (pe_meth (pv 0) T.cl mI GI hr bI .nil pass0 (pa_cons (pv 1) pa_nil)))) (pss_one (ps_ret (pe_lst (pa_cons (pgi (by rfl) T.e22) pa_nil)))) pss_nil)
      (pss_cons (ps_set (i := 2) scCh.nd rfl (.inl rfl) (pe_call GT hr1 (by rfl) gT kT bT .nil pass0 (pa_cons (pe_fld (pv 0) rfl) (pa_cons (pv 1) (pa_cons (pe_fld (pv 0) rfl) pa_nil)))))
      (pss_cons (ps_set (i := 3) scCh.nd rfl (.inl rfl) (pe_ifExp (pt_val (pe_call GO hr1 (by rfl) gO kO bO .nil pass0 (pa_cons (pe_fld (pv 0) rfl) (pa_cons (pv 1) (pa_cons (pv 2) pa_nil))))) pe_int pe_int))
      (pss_one (ps_ret (pe_lst (pa_cons (pv 3) (pa_cons (pe_call GF hr1 (by rfl) gF kF bF .nil pass0 (pa_cons (pv 2) (pa_cons (pe_fld (pv 0) rfl) pa_nil))) (pa_cons (pe_call GL hr1 (by rfl) gL kL bL .nil pass0 (pa_cons (pe_fld (pv 0) rfl) (pa_cons (pv 1) pa_nil))) pa_nil)))))))), ?_⟩
    refine ⟨_, rfl, v, dx, _, rfl, hv, vanF_no _ _ (by decide) (by decide), _, rfl, v, l, c, as, st, ns, rfl, A0, hs, h7, fun H1 s1 => ⟨_, rfl, ?_⟩⟩
    have A1 := A0.ext (.of s1)
    cases hX : Sr100.isRoute st ns with
    | false =>
      refine iteT ⟨by show 1 ≤ 16777216; decide, fun q hq => ?_⟩
      refine ext_end (r := [-22]) A0 (.of s1) (hT.ext s1) hq ?_ k
      unfold out Sr100.perform
      dsimp only
      rw [if_pos hX]
      rfl
    | true =>
      obtain ⟨en, hb, hln⟩ := route_nats hX
      rw [en] at hs
      refine iteF ?_
      refine ⟨_, rfl, v, CV, dx, _, _, rfl, s1 _ _ hv, T.cl, T.nS, vanF_shops _ _, _, rfl, _, rfl, v, CV, dx, _, _, rfl, s1 _ _ hv, T.cl, T.nD, vanF_dep _ _, ?_⟩
      refine ⟨l, c, as, st, SrCommon.intsToNats ns, rfl, A1.shops, s1.seq hs, hb, by omega, fun H3 t s3' nt ht => ?_⟩
      have s3 := s1.trans s3'
      have fin : ∀ (H4 : Hp), Same H3 H4 → ∀ (q : Addr), H4 q = none → Q (.ref q) (upd H4 q (.lst [.int (SrCommon.boolToInt (Sr100.isOnTime st (SrCommon.intsToNats ns))), nv (Sr100.finishTime st (SrCommon.intsToNats ns)), nv (Sr100.totalLoaves st (SrCommon.intsToNats ns))])) := fun H4 s4 q hq => by
        refine ext_end (r := [SrCommon.boolToInt (Sr100.isOnTime st (SrCommon.intsToNats ns)), (Sr100.finishTime st (SrCommon.intsToNats ns) : Int), (Sr100.totalLoaves st (SrCommon.intsToNats ns) : Int)]) A0 (.of (s3.trans s4)) (hT.ext (s3.trans s4)) hq ?_ k
        unfold out Sr100.perform
        dsimp only
        rw [if_neg (by rw [hX]; exact Bool.noConfusion)]
      have A3 := A0.ext (.of s3)
      refine ⟨_, rfl, v, CV, dx, _, _, rfl, s3 _ _ hv, T.cl, T.nS, vanF_shops _ _, _, rfl, _, rfl, l, c, t, as, st, SrCommon.intsToNats ns, rfl, A3.shops, s3.seq hs, SqL.of ht, hb, fun H4 s4 => ⟨_, rfl, ?_⟩⟩
      have s5 := s3.trans s4
      have A4 := A0.ext (.of s5)
      cases hon : Sr100.isOnTime st (SrCommon.intsToNats ns) with
      | false =>
        rw [hon] at fin
        refine iteF ⟨_, rfl, _, rfl, _, rfl, v, CV, dx, _, _, rfl, s5 _ _ hv, T.cl, T.nD, vanF_dep _ _, t, st.departure, _, rfl, SqL.of (s4 _ _ ht), ?_⟩
        refine ⟨_, rfl, v, CV, dx, _, _, rfl, s5 _ _ hv, T.cl, T.nS, vanF_shops _ _, _, rfl, l, c, as, st, SrCommon.intsToNats ns, rfl, A4.shops, s5.seq hs, hb, by omega, fun H5 s6 => ?_⟩
        exact ⟨by show 3 ≤ 16777216; decide, fun q hq => fin H5 (s4.trans s6) q hq⟩
      | true =>
        rw [hon] at fin
        refine iteT ⟨_, rfl, _, rfl, _, rfl, v, CV, dx, _, _, rfl, s5 _ _ hv, T.cl, T.nD, vanF_dep _ _, t, st.departure, _, rfl, SqL.of (s4 _ _ ht), ?_⟩
        refine ⟨_, rfl, v, CV, dx, _, _, rfl, s5 _ _ hv, T.cl, T.nS, vanF_shops _ _, _, rfl, l, c, as, st, SrCommon.intsToNats ns, rfl, A4.shops, s5.seq hs, hb, by omega, fun H5 s6 => ?_⟩
        exact ⟨by show 3 ≤ 16777216; decide, fun q hq => fin H5 (s4.trans s6) q hq⟩
end
end Br
end
section
set_option Elab.async false
set_option linter.all false
set_option maxRecDepth 100000
set_option maxHeartbeats 4000000
namespace Br
open PySem PySem.Spec PyProof.Rows L2 LamX NdefX BrK
abbrev sMl : Stmt := inClass cVan 16
abbrev sEo : Stmt := inClass cVan 17
abbrev sLd : Stmt := inClass cVan 18
abbrev sRt : Stmt := inClass cVan 19
abbrev sEw : Stmt := inClass cVan 20
abbrev sDe : Stmt := inClass cVan 21
section
variable {P : Program} {w : World} {K : PySem.W.Frag} {mg : Str → Option Value} {base : Heap} {CV CS Pt : Addr}
theorem scMl : FnScope ["self", "richest"] ["self"] (defScope sMl) := ⟨rfl, rfl, rfl, by decide +kernel, rfl, by decide +kernel, by decide +kernel⟩
theorem rich_len (st : Sr100.Street) (h7 : st.shops.length ≤ 7) : ((Sr100.bestRoute st (Sr100.bestShops st)).getD []).length ≤ 7 := by
  cases hb : Sr100.bestRoute st (Sr100.bestShops st) with
  | none => exact Nat.zero_le _
  | some r =>
    show r.length ≤ 7
    have hm := best_mem hb
    rw [rich_is] at hm
    rcases rich_mem st (2 ^ st.shops.length) with e | ⟨x, e⟩
    · rw [e] at hm
      have := (sweep_mem st [] List.Pairwise.nil r hm).1
      rw [List.length_nil] at this
      omega
    · rw [e] at hm
      have := (sweep_mem st _ (mask_pair _ _) r hm).1
      have := mask_len st.shops.length x
      omega
theorem ok_ml {f fR : Addr} {fd fdR : FuncData} (F : Fun K "max_loaves" "Van.max_loaves" sMl f fd) (T : TxtV K mg CV CS)
    (gR : mg "richest_route" = some (.ref fR)) (kR : PySem.W.keepIn K (.ref fR) = true) (GR : FnOk P w K mg base CX0 7 fR fdR ["shops", "departure"] (spRi CS Pt)) (bR : Binds K fdR ["shops", "departure"] []) :
    FnOk P w K mg base CX0 8 f fd ["self"] (spCall CV CS Pt 0 fun _ => .maxLoaves) := by
  refine F.ok scMl (fun vs H Q E h => ?_) (fun cdv A outer s H vs Q E hr h => ?_)
  · obtain ⟨_, _, _, _, xs, hx, rfl, _⟩ := h
    rw [List.length_cons, List.length_map, hx]
    rfl
  · obtain ⟨v, l, as, st, xs, hx, rfl, A0, hT, k⟩ := h
    obtain rfl : xs = [] := List.eq_nil_of_length_eq_zero hx
    obtain ⟨dx, hv⟩ := A0.van
    refine ⟨_, pss_cons (ps_set (i := 1) scMl.nd rfl (.inl rfl) (pe_call GR hr (by rfl) gR kR bR .nil pass0 (pa_cons (pe_fld (pv 0) rfl) (pa_cons (pe_fld (pv 0) rfl) pa_nil))))
      (pss_one (ps_ret (pe_op op_cat (pe_lst (pa_cons (pe_ix ix_tup (pv 1) pe_int (fun _ _ => rfl)) pa_nil)) (pe_ix ix_tup (pv 1) pe_int (fun _ _ => rfl))))), ?_⟩
    refine ⟨_, rfl, v, CV, dx, _, _, rfl, hv, T.cl, T.nS, vanF_shops _ _, _, rfl, v, CV, dx, _, _, rfl, hv, T.cl, T.nD, vanF_dep _ _, l, as, st, rfl, A0.shops, A0.seven, hT, fun H2 p q e2 T2 hp hq => ?_⟩
    refine ⟨_, rfl, p, _, _, _, rfl, rfl, SqT.of hp, atI_nat (j := 0) rfl, by show 1 ≤ 16777216; decide, fun a ha => ?_⟩
    have s1 : Same H2 (upd H2 a (.lst [nv (Sr100.totalLoaves st (Sr100.bestShops st))])) := same_new (Same.refl _) ha
    have hl := rich_len st A0.seven
    refine ⟨_, rfl, p, _, _, _, rfl, rfl, SqT.of (s1 _ _ hp), atI_nat (j := 1) rfl, a, q, _, _, rfl, rfl, upd_same, s1 _ _ hq, ?_, fun c hc => ?_⟩
    · rw [nats_len]
      show 1 + _ ≤ 16777216
      omega
    · have en : [nv (Sr100.totalLoaves st (Sr100.bestShops st))] ++ nats ((Sr100.bestRoute st (Sr100.bestShops st)).getD []) = ((Sr100.totalLoaves st (Sr100.bestShops st) : Int) :: SrCommon.natsToInts ((Sr100.bestRoute st (Sr100.bestShops st)).getD [])).map V.int := by
        rw [List.map_cons]
        exact congrArg (List.cons _) (zs_nats _).symm
      show Q (.ref c) (upd (upd H2 a (.lst [nv (Sr100.totalLoaves st (Sr100.bestShops st))])) c (.lst ([nv (Sr100.totalLoaves st (Sr100.bestShops st))] ++ nats ((Sr100.bestRoute st (Sr100.bestShops st)).getD []))))
      rw [en]
      exact ext_end (r := (Sr100.totalLoaves st (Sr100.bestShops st) : Int) :: SrCommon.natsToInts ((Sr100.bestRoute st (Sr100.bestShops st)).getD [])) A0 (e2.trans (.of s1)) (T2.ext s1) hc rfl k
theorem scEo : FnScope ["self", "mask"] ["self", "mask"] (defScope sEo) := ⟨rfl, rfl, rfl, by decide +kernel, rfl, by decide +kernel, by decide +kernel⟩
theorem ok_eo {f fN fM fT : Addr} {fd fdN fdM fdT : FuncData} (F : Fun K "earliest_finish_of" "Van.earliest_finish_of" sEo f fd) (T : TxtV K mg CV CS)
    (gN : mg "number_of_sets" = some (.ref fN)) (kN : PySem.W.keepIn K (.ref fN) = true) (GN : FnOk P w K mg base CX0 1 fN fdN ["shops"] (spNu CS)) (bN : Binds K fdN ["shops"] [])
    (gM : mg "members_of" = some (.ref fM)) (kM : PySem.W.keepIn K (.ref fM) = true) (GM : FnOk P w K mg base CX0 1 fM fdM ["mask", "shops"] (spMe CS)) (bM : Binds K fdM ["mask", "shops"] [])
    (mT : Meth K CV "earliest_finish_to" fT) (GT : FnOk P w K mg base CX0 7 fT fdT ["self", "chosen"] (spEt K CV CS Pt)) (bT : Binds K fdT ["self", "chosen"] []) :
    FnOk P w K mg base CX0 8 f fd ["self", "mask"] (spCall CV CS Pt 1 (mk1 .earliestFinishOf)) := by
  refine F.ok scEo (fun vs H Q E h => ?_) (fun cdv A outer s H vs Q E hr h => ?_)
  · obtain ⟨_, _, _, _, xs, hx, rfl, _⟩ := h
    rw [List.length_cons, List.length_map, hx]
    rfl
  · obtain ⟨v, l, as, st, xs, hx, rfl, A0, hT, k⟩ := h
    obtain ⟨x, rfl⟩ := one hx
    obtain ⟨dx, hv⟩ := A0.van
    have hr1 : Room 1 _ := hr.mono (by decide)
    refine ⟨_, pss_cons (ps_if (pt_not (pt_chain op_le op_lt pe_int (pv 1) (pe_call GN hr1 (by rfl) gN kN bN .nil pass0 (pa_cons (pe_fld (pv 0) rfl) pa_nil)))) (pss_one (ps_ret (pe_lst (pa_cons (pgi (by rfl) T.e22) pa_nil)))) pss_nil)
      (pss_one (ps_ret (pe_meth (pv 0) T.cl mT GT hr bT .nil pass0 (pa_cons (pe_call GM hr1 (by rfl) gM kM bM .nil pass0 (pa_cons (pv 1) (pa_cons (pe_fld (pv 0) rfl) pa_nil))) pa_nil)))), ?_⟩
    have bad : (x < 0 ∨ ((2 ^ st.shops.length : Nat) : Int) ≤ x) → ∀ q, H q = none → Q (.ref q) (upd H q (.lst [.int (-22)])) := fun c q hq => by
      refine same_end (r := [-22]) A0 hT hq ?_ k
      unfold mk1 out Sr100.perform
      dsimp only
      rw [if_pos c]
      rfl
    refine ⟨_, rfl, _, _, rfl, rfl, _, rfl, ?_⟩
    refine ite2 (fun c1 => ?_) (fun c1 => ?_)
    · have c1' : (0 : Int) ≤ x := of_decide_eq_true c1
      refine ⟨_, rfl, v, CV, dx, _, _, rfl, hv, T.cl, T.nS, vanF_shops _ _, l, as, st.shops, rfl, A0.shops, A0.seven, _, _, rfl, rfl, _, rfl, ?_⟩
      by_cases c2 : x < ((2 ^ st.shops.length : Nat) : Int)
      · rw [decide_eq_true c2]
        refine iteF ?_
        obtain ⟨m, rfl⟩ : ∃ m : Nat, x = (m : Int) := ⟨x.toNat, by omega⟩
        refine ⟨_, rfl, v, dx, _, rfl, hv, vanF_no _ _ (by decide) (by decide), _, rfl, _, rfl, v, CV, dx, _, _, rfl, hv, T.cl, T.nS, vanF_shops _ _, l, as, st.shops, m, rfl, A0.shops, A0.seven, fun H2 c s2 hc => ?_⟩
        have h7 := A0.seven
        have hml := mask_len st.shops.length m
        refine ⟨v, l, c, as, st, _, rfl, A0.ext (.of s2), SqL.of hc, mask_pair _ _, mask_lt _ _, by omega, hT.ext s2, fun H3 a n3 e3 T3 ha => ?_⟩
        refine ext_fin (r := [efc (Sr100.earliestFinish st (SrCommon.maskMembers st.shops.length m))]) A0 (n3.ext (.of s2)) ((ExtN.of s2).trans e3) T3 ha ?_ k
        unfold mk1 out Sr100.perform
        dsimp only
        rw [if_neg (by omega), time_code]
        rfl
      · rw [decide_eq_false c2]
        refine iteT ⟨by show 1 ≤ 16777216; decide, fun q hq => bad (.inr (by omega)) q hq⟩
    · have c1' : ¬ (0 : Int) ≤ x := fun z => c1 (decide_eq_true z)
      refine ⟨_, rfl, iteT ⟨by show 1 ≤ 16777216; decide, fun q hq => bad (.inl (by omega)) q hq⟩⟩
theorem scLd : FnScope ["self", "latest"] ["self"] (defScope sLd) := ⟨rfl, rfl, rfl, by decide +kernel, rfl, by decide +kernel, by decide +kernel⟩
theorem ok_ld {f fA fL : Addr} {fd fdA fdL : FuncData} (F : Fun K "latest_departure" "Van.latest_departure" sLd f fd) (T : TxtV K mg CV CS) (mA : Meth K CV "all_shops" fA) (GA : FnOk P w K mg base CX0 1 fA fdA ["self"] (spAls CV CS)) (bA : Binds K fdA ["self"] [])
    (gL : mg "latest_departure_to" = some (.ref fL)) (kL : PySem.W.keepIn K (.ref fL) = true) (GL : FnOk P w K mg base CX0 6 fL fdL ["shops", "chosen", "limit"] (spLt K CS Pt)) (bL : Binds K fdL ["shops", "chosen", "limit"] []) :
    FnOk P w K mg base CX0 7 f fd ["self"] (spCall CV CS Pt 0 fun _ => .latestDeparture) := by
  refine F.ok scLd (fun vs H Q E h => ?_) (fun cdv A outer s H vs Q E hr h => ?_)
  · obtain ⟨_, _, _, _, xs, hx, rfl, _⟩ := h
    rw [List.length_cons, List.length_map, hx]
    rfl
  · obtain ⟨v, l, as, st, xs, hx, rfl, A0, hT, k⟩ := h
    obtain rfl : xs = [] := List.eq_nil_of_length_eq_zero hx
    obtain ⟨dx, hv⟩ := A0.van
    have hr1 : Room 1 _ := hr.mono (by decide)
    refine ⟨_, pss_cons (ps_set (i := 1) scLd.nd rfl (.inl rfl) (pe_call GL hr (by rfl) gL kL bL .nil pass0 (pa_cons (pe_fld (pv 0) rfl) (pa_cons (pe_meth0 (pv 0) T.cl mA GA hr1 bA .nil pass0) (pa_cons (pgi (by rfl) T.lt) pa_nil)))))
      (pss_cons (ps_if (pt_cmpR op_lt (pv 1) pe_int (nomark _)) (pss_one (ps_ret (pe_lst (pa_cons (pgi (by rfl) T.e33) pa_nil)))) pss_nil)
      (pss_one (ps_ret (pe_lst (pa_cons (pv 1) pa_nil))))), ?_⟩
    refine ⟨_, rfl, v, CV, dx, _, _, rfl, hv, T.cl, T.nS, vanF_shops _ _, _, rfl, v, dx, _, rfl, hv, vanF_no _ _ (by decide) (by decide), v, l, as, st, rfl, A0, fun H1 q s1 hq => ?_⟩
    refine ⟨l, q, as, st, Sr100.allShops st, rfl, A0.shops.ext (.of s1), SqL.of hq, all_pair st, all_lt st, by rw [all_len]; exact A0.seven, hT.ext s1, fun H2 M e2 T2 hM1 hM2 => ?_⟩
    have hl := latest_is st M hM1 hM2
    refine ⟨_, rfl, _, _, rfl, rfl, _, rfl, ite2 (fun c => ?_) (fun c => ?_)⟩
    · have c' : M < 0 := of_decide_eq_true c
      refine ⟨by show 1 ≤ 16777216; decide, fun a ha => ext_end (r := [-33]) A0 ((ExtN.of s1).trans e2) T2 ha ?_ k⟩
      unfold out Sr100.perform
      dsimp only
      rw [time_code, hl, if_pos c']
      rfl
    · have c' : ¬ M < 0 := fun z => c (decide_eq_true z)
      refine ⟨_, rfl, by show 1 ≤ 16777216; decide, fun a ha => ext_end (r := [M]) A0 ((ExtN.of s1).trans e2) T2 ha ?_ k⟩
      unfold out Sr100.perform
      dsimp only
      rw [time_code, hl, if_neg c']
      show (st, [((M.toNat : Nat) : Int)]) = (st, [M])
      rw [show ((M.toNat : Nat) : Int) = M by omega]
theorem scRt : FnScope ["self", "best", "last_shop"] ["self"] (defScope sRt) := ⟨rfl, rfl, rfl, by decide +kernel, rfl, by decide +kernel, by decide +kernel⟩
theorem ok_rt {f fA : Addr} {fd fdA : FuncData} (F : Fun K "return_time" "Van.return_time" sRt f fd) (T : TxtV K mg CV CS) (mA : Meth K CV "best_route_to_all" fA) (GA : FnOk P w K mg base CX0 7 fA fdA ["self"] (spAll CV CS Pt)) (bA : Binds K fdA ["self"] []) :
    FnOk P w K mg base CX0 8 f fd ["self"] (spCall CV CS Pt 0 fun _ => .returnTime) := by
  refine F.ok scRt (fun vs H Q E h => ?_) (fun cdv A outer s H vs Q E hr h => ?_)
  · obtain ⟨_, _, _, _, xs, hx, rfl, _⟩ := h
    rw [List.length_cons, List.length_map, hx]
    rfl
  · obtain ⟨v, l, as, st, xs, hx, rfl, A0, hT, k⟩ := h
    obtain rfl : xs = [] := List.eq_nil_of_length_eq_zero hx
    obtain ⟨dx, hv⟩ := A0.van
    refine ⟨_, pss_cons (ps_set (i := 1) scRt.nd rfl (.inl rfl) (pe_meth0 (pv 0) T.cl mA GA hr bA .nil pass0))
      (pss_cons (ps_if (pt_cmpR op_isN (pv 1) pe_non (nomark _)) (pss_one (ps_ret (pe_lst (pa_cons (pgi (by rfl) T.e33) pa_nil)))) pss_nil)
      (pss_cons (ps_if (pt_cmpR op_eq (pe_callB call_len_seq (by rfl) T.gL PySem.boot_len (pa_cons (pe_ix ix_tup (pv 1) pe_int (fun _ _ => rfl)) pa_nil)) pe_int (nomark _)) (pss_one (ps_ret (pe_lst (pa_cons (pe_ix ix_tup (pv 1) pe_int (fun _ _ => rfl)) pa_nil)))) pss_nil)
      (pss_cons (ps_set (i := 2) scRt.nd rfl (.inl rfl) (pe_ix ix_list (pe_fld (pv 0) rfl) (pe_ix ix_list (pe_ix ix_tup (pv 1) pe_int (fun _ _ => rfl)) (pe_un un_neg pe_int) (fun _ _ => rfl)) (fun _ _ => rfl)))
      (pss_one (ps_ret (pe_lst (pa_cons (pe_op op_add (pe_ix ix_tup (pv 1) pe_int (fun _ _ => rfl)) (pe_callB call_abs (by rfl) T.gA (by decide +kernel) (pa_cons (pe_fld (pv 2) rfl) pa_nil))) pa_nil))))))), ?_⟩
    refine ⟨_, rfl, v, dx, _, rfl, hv, vanF_no _ _ (by decide) (by decide), v, l, as, st, rfl, A0, hT, fun H2 b e2 T2 hB => ?_⟩
    cases hb : Sr100.bestRoute st (Sr100.allShops st) with
    | none =>
      rw [hb] at hB
      obtain rfl : b = .non := hB
      refine ⟨_, rfl, rfl, _, rfl, ite2 (fun _ => ?_) fun z => absurd (decide_eq_true rfl) z⟩
      refine ⟨by show 1 ≤ 16777216; decide, fun q hq => ext_end (r := [-33]) A0 e2 T2 hq ?_ k⟩
      unfold out Sr100.perform
      dsimp only
      rw [hb]
      rfl
    | some r =>
      rw [hb] at hB
      obtain ⟨p, q, rfl, hp, hq⟩ := hB
      refine ⟨_, rfl, rfl, _, rfl, ite2 (fun z => nomatch of_decide_eq_true z) fun _ => ?_⟩
      refine ⟨_, rfl, p, _, _, _, rfl, rfl, SqT.of hp, atI_nat (j := 1) rfl, q, _, rfl, .inl (SqL.of hq), rfl, _, rfl, ite2 (fun c => ?_) (fun c => ?_)⟩
      · have z : ((nats r).length : Int) = 0 := V.int.inj (of_decide_eq_true c)
        rw [nats_len] at z
        obtain rfl : r = [] := List.eq_nil_of_length_eq_zero (by omega)
        refine ⟨_, rfl, p, _, _, _, rfl, rfl, SqT.of hp, atI_nat (j := 0) rfl, by show 1 ≤ 16777216; decide, fun a ha => ext_end (r := [(st.departure : Int)]) A0 e2 T2 ha ?_ k⟩
        unfold out Sr100.perform
        dsimp only
        rw [hb]
        rfl
      · have hne : r ≠ [] := fun z => c (decide_eq_true (by subst z; rfl))
        obtain ⟨pre, t, rfl⟩ : ∃ pre t, r = pre ++ [t] := ⟨_, _, (List.dropLast_concat_getLast hne).symm⟩
        have ht : t < st.shops.length := all_lt st t ((sweep_mem st _ (all_pair st) _ (best_mem hb)).2 t (List.mem_append_right _ (List.mem_singleton.mpr rfl)))
        have en : nats (pre ++ [t]) = nats pre ++ [nv t] := by unfold nats; rw [List.map_append]; rfl
        have A2 := A0.ext e2
        obtain ⟨dx2, hv2⟩ := A2.van
        obtain ⟨a, dy, ha, hd⟩ := A2.shops.get ht
        refine ⟨_, rfl, v, CV, dx2, _, _, rfl, hv2, T.cl, T.nS, vanF_shops _ _, _, rfl, p, _, _, _, rfl, rfl, SqT.of hp, atI_nat (j := 1) rfl, _, rfl, q, _, _, _, rfl, rfl, SqL.of hq, (by rw [en]; exact atI_last (nats pre) (nv t)), ?_⟩
        refine ⟨l, _, _, .ref a, rfl, rfl, SqL.of A2.shops.lst, atI_nat (by rw [List.getElem?_map, ha]; rfl), ?_⟩
        refine ⟨_, rfl, p, _, _, _, rfl, rfl, SqT.of hp, atI_nat (j := 0) rfl, _, rfl, a, CS, dy, _, _, rfl, hd, T.S.cl, T.S.nP, shF_pos _, _, rfl, _, _, rfl, rfl, ?_⟩
        refine ⟨by show 1 ≤ 16777216; decide, fun q2 hq2 => ?_⟩
        have ed : ((Sr100.finishTime st (pre ++ [t]) : Nat) : Int) + (if (Sr100.shopAt st t).position < 0 then -(Sr100.shopAt st t).position else (Sr100.shopAt st t).position) = ((Sr100.finishTime st (pre ++ [t]) + Sr100.distance (Sr100.shopAt st t).position 0 : Nat) : Int) := by
          unfold Sr100.distance
          split <;> omega
        show Q (.ref q2) (upd H2 q2 (.lst [V.int (((Sr100.finishTime st (pre ++ [t]) : Nat) : Int) + (if (Sr100.shopAt st t).position < 0 then -(Sr100.shopAt st t).position else (Sr100.shopAt st t).position))]))
        rw [ed]
        refine ext_end (r := [((Sr100.finishTime st (pre ++ [t]) + Sr100.distance (Sr100.shopAt st t).position 0 : Nat) : Int)]) A0 e2 T2 hq2 ?_ k
        have el : (pre ++ [t]).getLastD 0 = t := by simp
        unfold out Sr100.perform
        dsimp only
        rw [hb]
        cases pre with
        | nil => rfl
        | cons x pre =>
          show (st, [((Sr100.finishTime st (x :: pre ++ [t]) + Sr100.distance (Sr100.shopAt st ((x :: pre ++ [t]).getLastD 0)).position 0 : Nat) : Int)]) = _
          rw [el]
end
end Br
end
section
set_option Elab.async false
set_option linter.all false
set_option maxRecDepth 100000
set_option maxHeartbeats 4000000
namespace Br
open PySem PySem.Spec PyProof.Rows L2 LamX NdefX BrK
def tEw : TT := tTest (tOp rNe (tVar 2) (tVar 1))
/-- what describe tells of the shops -/
def tellS (ss : List Sr100.Shop) : List Int := ss.flatMap fun y => [y.position, (y.deadline : Int), (y.loaves : Int)]
theorem tell_len (ss : List Sr100.Shop) : (tellS ss).length = 3 * ss.length := by
  unfold tellS
  induction ss with
  | nil => rfl
  | cons x ss ih => rw [List.flatMap_cons, List.length_append, ih, List.length_cons]; simp; omega
section
variable {P : Program} {w : World} {K : PySem.W.Frag} {mg : Str → Option Value} {base : Heap} {CV CS Pt : Addr}
theorem scEw : FnScope ["self", "i", "other"] ["self", "i"] (defScope sEw) := ⟨rfl, rfl, rfl, by decide +kernel, rfl, by decide +kernel, by decide +kernel⟩
theorem ok_ew {f fH fA fT : Addr} {fd fdH fdA fdT : FuncData} (F : Fun K "earliest_finish_without" "Van.earliest_finish_without" sEw f fd) (T : TxtV K mg CV CS)
    (mH : Meth K CV "has_shop" fH) (GH : FnOk P w K mg base CX0 1 fH fdH ["self", "i"] (spHas CV CS)) (bH : Binds K fdH ["self", "i"] [])
    (mA : Meth K CV "all_shops" fA) (GA : FnOk P w K mg base CX0 1 fA fdA ["self"] (spAls CV CS)) (bA : Binds K fdA ["self"] [])
    (mT : Meth K CV "earliest_finish_to" fT) (GT : FnOk P w K mg base CX0 7 fT fdT ["self", "chosen"] (spEt K CV CS Pt)) (bT : Binds K fdT ["self", "chosen"] []) :
    FnOk P w K mg base CX0 8 f fd ["self", "i"] (spCall CV CS Pt 1 (mk1 .earliestFinishWithout)) := by
  refine F.ok scEw (fun vs H Q E h => ?_) (fun cdv A outer s H vs Q E hr h => ?_)
  · obtain ⟨_, _, _, _, xs, hx, rfl, _⟩ := h
    rw [List.length_cons, List.length_map, hx]
    rfl
  · obtain ⟨v, l, as, st, xs, hx, rfl, A0, hT, k⟩ := h
    obtain ⟨i, rfl⟩ := one hx
    obtain ⟨dx, hv⟩ := A0.van
    have hr1 : Room 1 _ := hr.mono (by decide)
    refine ⟨_, pss_cons (ps_if (pt_not (pt_val (pe_meth (pv 0) T.cl mH GH hr1 bH .nil pass0 (pa_cons (pv 1) pa_nil)))) (pss_one (ps_ret (pe_lst (pa_cons (pgi (by rfl) T.e2) pa_nil)))) pss_nil)
      (pss_one (ps_ret (pe_meth (pv 0) T.cl mT GT hr bT .nil pass0 (pa_cons
        (pe_lc (own := [("other", 2)]) (g := gName 2) (tt := tEw) (te := tVar 2) (by rfl) scEw.nd (pi_list (pe_meth0 (pv 0) T.cl mA GA hr1 bA .nil pass0)) (blkOk_by (N := ["self", "i", "other"]) (sc := defScope sEw) (by decide +kernel))
          (fun _ _ _ _ _ => pg_name (i := 2) scEw.nd rfl (.inl rfl)) (fun _ _ _ _ _ => pts_one (pt_cmpR op_ne (pv 2) (pv 1) (nomark _))) (fun _ _ _ _ _ => pv 2)) pa_nil)))), ?_⟩
    refine ⟨_, rfl, v, dx, _, rfl, hv, vanF_no _ _ (by decide) (by decide), _, rfl, v, l, as, st, i, rfl, A0, _, rfl, ?_⟩
    cases hi : Sr100.isShop st i with
    | false =>
      refine iteT ⟨by show 1 ≤ 16777216; decide, fun q hq => ?_⟩
      refine same_end (r := [-2]) A0 hT hq ?_ k
      unfold mk1 out Sr100.perform
      dsimp only
      rw [if_pos hi]
      rfl
    | true =>
      obtain ⟨j, rfl, hj⟩ := shop_nat hi
      refine iteF ⟨_, rfl, v, dx, _, rfl, hv, vanF_no _ _ (by decide) (by decide), _, rfl, v, dx, _, rfl, hv, vanF_no _ _ (by decide) (by decide), v, l, as, st, rfl, A0, fun H1 q s1 hq => ?_⟩
      refine ⟨q, rfl, ⟨_, SqL.of hq⟩, fun D nD => lc_list (K := K) (a := q) (xs := nats (Sr100.allShops st)) (fun n Hi => Same H1 Hi ∧ Hi D = some (.lst (nats (((Sr100.allShops st).take n).filter fun o => o != j))))
        ⟨same_new (Same.refl _) nD, upd_same⟩ (fun n Hi _ h => SqL.of (h.1 _ _ hq)) ?_ ?_⟩
      · rintro n x Hi hn ⟨sH, hD⟩
        obtain ⟨o, ho, rfl⟩ := nats_get hn
        refine ⟨rfl, ?_⟩
        refine ⟨_, rfl, _, rfl, rfl, _, rfl, ?_⟩
        have et : ((Sr100.allShops st).take (n + 1)).filter (fun o => o != j) = ((Sr100.allShops st).take n).filter (fun o => o != j) ++ if (o != j) = true then [o] else [] := by
          rw [List.take_add_one, ho, List.filter_append]
          congr 1
          exact List.filter_cons
        refine ite2 (fun c => ?_) (fun c => ?_)
        · have c' : (o != j) = true := by
            rw [bne_iff_ne]
            intro z
            subst z
            revert c
            show ¬ (!decide (V.int (o : Int) = V.int (o : Int))) = true
            rw [decide_eq_true rfl]
            decide
          rw [if_pos c'] at et
          refine ⟨_, rfl, _, hD, ?_, ?_, ?_⟩
          · have h7 := A0.seven
            have := List.length_filter_le (fun o => o != j) ((Sr100.allShops st).take n)
            rw [List.length_take, all_len] at this
            rw [nats_len]
            exact Nat.lt_of_le_of_lt (show _ ≤ 1000 by omega) (by decide)
          · intro b u e
            rw [upd_ne (ne_of_none e nD)]
            exact sH _ _ e
          · rw [upd_same, et]
            unfold nats
            rw [List.map_append]
            rfl
        · have c' : ¬ (o != j) = true := by
            rw [bne_iff_ne, Ne, Classical.not_not]
            refine Classical.byContradiction fun z => c ?_
            show (!decide (V.int (o : Int) = V.int (j : Int))) = true
            rw [decide_eq_false (fun q => z (by have := V.int.inj q; omega))]
            rfl
          rw [if_neg c', List.append_nil] at et
          exact ⟨sH, by rw [et]; exact hD⟩
      · rintro Hi ⟨sH, hD⟩
        rw [nats_len, List.take_length] at hD
        have h7 := A0.seven
        have hfl := List.length_filter_le (fun o => o != j) (Sr100.allShops st)
        rw [all_len] at hfl
        refine ⟨v, l, D, as, st, _, rfl, A0.ext (.of (s1.trans sH)), SqL.of hD, (all_pair st).filter _, fun o ho => all_lt st o (List.mem_filter.mp ho).1, by omega, hT.ext (s1.trans sH), fun H3 a n3 e3 T3 ha => ?_⟩
        refine ext_fin (r := [efc (Sr100.earliestFinish st ((Sr100.allShops st).filter fun o => o != j))]) A0 (n3.ext (.of (s1.trans sH))) ((ExtN.of (s1.trans sH)).trans e3) T3 ha ?_ k
        unfold mk1 out Sr100.perform
        dsimp only
        rw [if_neg (by rw [hi]; exact Bool.noConfusion), time_code]
        rfl
theorem scDe : FnScope ["self", "told", "shop"] ["self"] (defScope sDe) := ⟨rfl, rfl, rfl, by decide +kernel, rfl, by decide +kernel, by decide +kernel⟩
theorem ok_de {f : Addr} {fd : FuncData} (F : Fun K "describe" "Van.describe" sDe f fd) (T : TxtV K mg CV CS) :
    FnOk P w K mg base CX0 1 f fd ["self"] (spCall CV CS Pt 0 fun _ => .describe) := by
  refine F.ok scDe (fun vs H Q E h => ?_) (fun cdv A outer s H vs Q E hr h => ?_)
  · obtain ⟨_, _, _, _, xs, hx, rfl, _⟩ := h
    rw [List.length_cons, List.length_map, hx]
    rfl
  · obtain ⟨v, l, as, st, xs, hx, rfl, A0, hT, k⟩ := h
    obtain rfl : xs = [] := List.eq_nil_of_length_eq_zero hx
    obtain ⟨dx, hv⟩ := A0.van
    refine ⟨_, pss_cons (ps_set (i := 1) scDe.nd rfl (.inl rfl) (pe_lst (pa_cons (pe_fld (pv 0) rfl) (pa_cons (pe_callB call_len_seq (by rfl) T.gL PySem.boot_len (pa_cons (pe_fld (pv 0) rfl) pa_nil)) pa_nil))))
      (pss_cons (ps_for PassesOwn.never rfl (pi_list (pe_fld (pv 0) rfl)) (pg_name (i := 2) scDe.nd rfl (.inl rfl))
        (pss_one (ps_expr (pe_bm PySem.F.plainAttrs_list PySem.F.slot_list_extend PySem.F.type_list_extend mt_extend (pv 1) (pa_cons (pe_lst (pa_cons (pe_fld (pv 2) rfl) (pa_cons (pe_fld (pv 2) rfl) (pa_cons (pe_fld (pv 2) rfl) pa_nil)))) pa_nil)))))
      (pss_one (ps_ret (pv 1)))), ?_⟩
    refine ⟨_, rfl, v, CV, dx, _, _, rfl, hv, T.cl, T.nD, vanF_dep _ _, _, rfl, v, CV, dx, _, _, rfl, hv, T.cl, T.nS, vanF_shops _ _, l, _, rfl, .inl (SqL.of A0.shops.lst), by show 2 ≤ 16777216; decide, fun t nt => ?_⟩
    have el : (as.map V.ref).length = st.shops.length := by rw [List.length_map, A0.shops.len]
    rw [el]
    have s1 : Same H (upd H t (.lst [nv st.departure, .int (st.shops.length : Int)])) := same_new (Same.refl _) nt
    have t1 : upd H t (.lst [nv st.departure, .int (st.shops.length : Int)]) t = some (.lst [nv st.departure, .int (st.shops.length : Int)]) := upd_same
    refine ⟨_, rfl, v, CV, dx, _, _, rfl, s1 _ _ hv, T.cl, T.nS, vanF_shops _ _, l, rfl, ⟨_, SqL.of (s1 _ _ A0.shops.lst)⟩, ?_⟩
    refine for_list (K := K) (a := l) (xs := as.map V.ref) (fun i σ H' => ∃ o2 : Option V, σ = [some (.ref v), some (.ref t), o2] ∧ Same H H' ∧ H' t = some (.lst (((st.departure : Int) :: (st.shops.length : Int) :: tellS (st.shops.take i)).map V.int)))
      ⟨_, rfl, s1, t1⟩ (fun i σ H' _ ⟨_, _, z, _⟩ => SqL.of (z _ _ A0.shops.lst)) ?_ ?_
    · rintro i x σ H' hi ⟨o2, rfl, sH, ht⟩
      obtain ⟨a, ha, rfl⟩ : ∃ a, as[i]? = some a ∧ x = .ref a := by
        rw [List.getElem?_map] at hi
        cases q : as[i]? with
        | none => rw [q] at hi; cases hi
        | some a => rw [q] at hi; exact ⟨a, rfl, (Option.some.inj hi).symm⟩
      have hil : i < st.shops.length := by rw [← A0.shops.len]; exact (List.getElem?_eq_some_iff.mp ha).1
      have hs : st.shops[i]? = some st.shops[i] := List.getElem?_eq_getElem hil
      obtain ⟨dy, hd⟩ := (A0.shops.ext (.of sH)).at_ i a _ ha hs
      generalize st.shops[i] = sp at hs hd
      refine ⟨_, rfl, .inl ⟨rfl, _, SqL.of ht⟩, _, rfl, a, CS, dy, _, _, rfl, hd, T.S.cl, T.S.nP, shF_pos _, _, rfl, a, CS, dy, _, _, rfl, hd, T.S.cl, T.S.nD, shF_dead _, _, rfl, a, CS, dy, _, _, rfl, hd, T.S.cl, T.S.nL, shF_loaf _, by show 3 ≤ 16777216; decide, fun q hq => ?_⟩
      have tq : t ≠ q := fun z => by rw [← z, ht] at hq; cases hq
      refine ⟨t, q, _, _, rfl, rfl, by rw [upd_ne tq]; exact ht, upd_same, ?_, _, rfl, ?_, ?_⟩
      · have h7 := A0.seven
        have := tell_len (st.shops.take i)
        rw [List.length_take] at this
        rw [List.length_map, List.length_cons, List.length_cons]
        show _ + 3 ≤ 16777216
        omega
      · intro b o e
        rw [upd_ne (ne_of_none e nt), upd_ne (ne_of_none (sH _ _ e) hq)]
        exact sH _ _ e
      · rw [upd_same]
        have e3 : tellS (st.shops.take (i + 1)) = tellS (st.shops.take i) ++ [sp.position, (sp.deadline : Int), (sp.loaves : Int)] := by
          rw [List.take_add_one, hs]
          unfold tellS
          rw [List.flatMap_append]
          rfl
        rw [e3]
        show some (HO.lst (List.map V.int ((st.departure : Int) :: (st.shops.length : Int) :: tellS (st.shops.take i)) ++ [V.int sp.position, nv sp.deadline, nv sp.loaves])) = some (HO.lst (List.map V.int (((st.departure : Int) :: (st.shops.length : Int) :: tellS (st.shops.take i)) ++ [sp.position, (sp.deadline : Int), (sp.loaves : Int)])))
        rw [List.map_append]
        rfl
    · rintro σ H' ⟨o2, rfl, sH, ht⟩
      rw [el, List.take_length] at ht
      refine ⟨_, rfl, ?_⟩
      exact ext_fin (r := (st.departure : Int) :: (st.shops.length : Int) :: tellS st.shops) A0 (.of nt) (.of sH) (hT.ext sH) ht rfl k
end
end Br
end
section
set_option linter.all false
set_option maxHeartbeats 1000000
namespace Br
open PySr100
theorem shape_cases {p : Int} {n k : Nat} (h : shape p = some (n, k)) : (p = 0 ∧ n = 1 ∧ k = 0) ∨ (p = 1 ∧ n = 3 ∧ k = 0) ∨ (p = 2 ∧ n = 1 ∧ k = 0) ∨ (p = 3 ∧ n = 2 ∧ k = 0) ∨ (p = 4 ∧ n = 2 ∧ k = 0) ∨ (p = 5 ∧ n = 2 ∧ k = 0) ∨ (p = 6 ∧ n = 1 ∧ k = 0) ∨ (p = 7 ∧ n = 0 ∧ k = 0) ∨ (p = 8 ∧ n = 0 ∧ k = 0) ∨
    (p = 9 ∧ n = 0 ∧ k = 1) ∨ (p = 10 ∧ n = 0 ∧ k = 1) ∨ (p = 11 ∧ n = 0 ∧ k = 0) ∨ (p = 12 ∧ n = 1 ∧ k = 0) ∨ (p = 13 ∧ n = 0 ∧ k = 0) ∨ (p = 14 ∧ n = 0 ∧ k = 0) ∨ (p = 15 ∧ n = 1 ∧ k = 0) ∨ (p = 16 ∧ n = 0 ∧ k = 0) := by
  unfold shape at h
  by_cases h0 : p = 0
  · rw [if_pos h0] at h
    injection h with e
    injection e with e1 e2
    exact .inl ⟨h0, e1.symm, e2.symm⟩
  rw [if_neg h0] at h
  by_cases h1 : p = 1
  · rw [if_pos h1] at h
    injection h with e
    injection e with e1 e2
    exact .inr (.inl ⟨h1, e1.symm, e2.symm⟩)
  rw [if_neg h1] at h
  by_cases h2 : p = 2
  · rw [if_pos h2] at h
    injection h with e
    injection e with e1 e2
    exact .inr (.inr (.inl ⟨h2, e1.symm, e2.symm⟩))
  rw [if_neg h2] at h
  by_cases h3 : p = 3
  · rw [if_pos h3] at h
    injection h with e
    injection e with e1 e2
    exact .inr (.inr (.inr (.inl ⟨h3, e1.symm, e2.symm⟩)))
  rw [if_neg h3] at h
  by_cases h4 : p = 4
  · rw [if_pos h4] at h
    injection h with e
    injection e with e1 e2
    exact .inr (.inr (.inr (.inr (.inl ⟨h4, e1.symm, e2.symm⟩))))
  rw [if_neg h4] at h
  by_cases h5 : p = 5
  · rw [if_pos h5] at h
    injection h with e
    injection e with e1 e2
    exact .inr (.inr (.inr (.inr (.inr (.inl ⟨h5, e1.symm, e2.symm⟩)))))
  rw [if_neg h5] at h
  by_cases h6 : p = 6
  · rw [if_pos h6] at h
    injection h with e
    injection e with e1 e2
    exact .inr (.inr (.inr (.inr (.inr (.inr (.inl ⟨h6, e1.symm, e2.symm⟩))))))
  rw [if_neg h6] at h
  by_cases h7 : p = 7
  · rw [if_pos h7] at h
    injection h with e
    injection e with e1 e2
    exact .inr (.inr (.inr (.inr (.inr (.inr (.inr (.inl ⟨h7, e1.symm, e2.symm⟩)))))))
  rw [if_neg h7] at h
  by_cases h8 : p = 8
  · rw [if_pos h8] at h
    injection h with e
    injection e with e1 e2
    exact .inr (.inr (.inr (.inr (.inr (.inr (.inr (.inr (.inl ⟨h8, e1.symm, e2.symm⟩))))))))
  rw [if_neg h8] at h
  by_cases h9 : p = 9
  · rw [if_pos h9] at h
    injection h with e
    injection e with e1 e2
    exact .inr (.inr (.inr (.inr (.inr (.inr (.inr (.inr (.inr (.inl ⟨h9, e1.symm, e2.symm⟩)))))))))
  rw [if_neg h9] at h
  by_cases h10 : p = 10
  · rw [if_pos h10] at h
    injection h with e
    injection e with e1 e2
    exact .inr (.inr (.inr (.inr (.inr (.inr (.inr (.inr (.inr (.inr (.inl ⟨h10, e1.symm, e2.symm⟩))))))))))
  rw [if_neg h10] at h
  by_cases h11 : p = 11
  · rw [if_pos h11] at h
    injection h with e
    injection e with e1 e2
    exact .inr (.inr (.inr (.inr (.inr (.inr (.inr (.inr (.inr (.inr (.inr (.inl ⟨h11, e1.symm, e2.symm⟩)))))))))))
  rw [if_neg h11] at h
  by_cases h12 : p = 12
  · rw [if_pos h12] at h
    injection h with e
    injection e with e1 e2
    exact .inr (.inr (.inr (.inr (.inr (.inr (.inr (.inr (.inr (.inr (.inr (.inr (.inl ⟨h12, e1.symm, e2.symm⟩))))))))))))
  rw [if_neg h12] at h
  by_cases h13 : p = 13
  · rw [if_pos h13] at h
    injection h with e
    injection e with e1 e2
    exact .inr (.inr (.inr (.inr (.inr (.inr (.inr (.inr (.inr (.inr (.inr (.inr (.inr (.inl ⟨h13, e1.symm, e2.symm⟩)))))))))))))
  rw [if_neg h13] at h
  by_cases h14 : p = 14
  · rw [if_pos h14] at h
    injection h with e
    injection e with e1 e2
    exact .inr (.inr (.inr (.inr (.inr (.inr (.inr (.inr (.inr (.inr (.inr (.inr (.inr (.inr (.inl ⟨h14, e1.symm, e2.symm⟩))))))))))))))
  rw [if_neg h14] at h
  by_cases h15 : p = 15
  · rw [if_pos h15] at h
    injection h with e
    injection e with e1 e2
    exact .inr (.inr (.inr (.inr (.inr (.inr (.inr (.inr (.inr (.inr (.inr (.inr (.inr (.inr (.inr (.inl ⟨h15, e1.symm, e2.symm⟩)))))))))))))))
  rw [if_neg h15] at h
  by_cases h16 : p = 16
  · rw [if_pos h16] at h
    injection h with e
    injection e with e1 e2
    exact .inr (.inr (.inr (.inr (.inr (.inr (.inr (.inr (.inr (.inr (.inr (.inr (.inr (.inr (.inr (.inr (⟨h16, e1.symm, e2.symm⟩))))))))))))))))
  rw [if_neg h16] at h
  cases h
/-- one call at the head of what is left: its own numbers, or one row with its length ahead -/
inductive Form (p : Int) (r : List Int) : List (List Int) → List Int → Prop
  | flat (n : Nat) (a t : List Int) : shape p = some (n, 0) → a.length = n → r = a ++ t → Form p r [p :: a] t
  | row (m : Nat) (a t : List Int) : shape p = some (0, 1) → a.length = m → r = (m : Int) :: (a ++ t) → Form p r [[p], a] t
theorem flat_cons {f : Nat} {p : Int} {r : List Int} {cs : List (List (List Int))} (h : PyFlat.calls shape f (p :: r) = some cs) : ∃ c t cs' f', cs = c :: cs' ∧ PyFlat.calls shape f' t = some cs' ∧ Form p r c t := by
  cases f with
  | zero => cases h
  | succ f =>
    unfold PyFlat.calls at h
    cases hc : PyFlat.call shape (p :: r) with
    | none => rw [hc] at h; cases h
    | some ct =>
      obtain ⟨c, t⟩ := ct
      rw [hc] at h
      dsimp only at h
      cases ht : PyFlat.calls shape f t with
      | none => rw [ht] at h; cases h
      | some cs' =>
        rw [ht] at h
        obtain rfl := Option.some.inj h
        refine ⟨c, t, cs', f, rfl, ht, ?_⟩
        unfold PyFlat.call at hc
        dsimp only at hc
        cases hs : shape p with
        | none => rw [hs] at hc; cases hc
        | some nk =>
          obtain ⟨n, k⟩ := nk
          rw [hs] at hc
          dsimp only at hc
          have hk : (k = 0) ∨ (k = 1 ∧ n = 0) := by
            have := shape_cases hs
            omega
          by_cases hn : r.length < n
          · rw [if_pos hn] at hc; cases hc
          · rw [if_neg hn] at hc
            rcases hk with rfl | ⟨rfl, rfl⟩
            · unfold PyFlat.rows at hc
              dsimp only at hc
              injection hc with e
              injection e with e1 e2
              subst e1 e2
              exact .flat n _ _ hs (by rw [List.length_take]; omega) (List.take_append_drop n r).symm
            · unfold PyFlat.rows at hc
              rw [List.drop_zero, List.take_zero] at hc
              cases hr : PyFlat.row r with
              | none => rw [hr] at hc; cases hc
              | some xs =>
                obtain ⟨x, s⟩ := xs
                rw [hr] at hc
                unfold PyFlat.rows at hc
                dsimp only at hc
                injection hc with e
                injection e with e1 e2
                subst e1 e2
                unfold PyFlat.row at hr
                cases r with
                | nil => cases hr
                | cons m r =>
                  dsimp only at hr
                  split at hr
                  · rename_i hm
                    injection hr with e
                    injection e with e1 e2
                    subst e1 e2
                    refine .row m.toNat _ _ hs (by rw [List.length_take]; omega) ?_
                    rw [List.take_append_drop, Int.toNat_of_nonneg hm.1]
                  · cases hr
theorem flat_nil {f : Nat} {cs : List (List (List Int))} (h : PyFlat.calls shape f [] = some cs) : cs = [] := by
  cases f <;> exact (Option.some.inj h).symm
/-- what is asked, taken apart -/
theorem asked_of {l : List Int} (h : answers_asked l = true) : ∃ raw, PyFlat.calls shape l.length l = some raw ∧ answers l = PyFlat.told (PyFlat.played Sr100Neutral.step Sr100Neutral.start (raw.map whole)) ∧ PyInside.calls bound raw = true ∧ (answers l).length ≤ 10000000 ∧ raw.length ≤ 60 := by
  unfold answers_asked at h
  cases hc : PyFlat.calls shape l.length l with
  | none => rw [hc] at h; cases h
  | some raw =>
    rw [hc] at h
    simp only [Bool.and_eq_true] at h
    obtain ⟨⟨⟨⟨_, h2⟩, h3⟩, _⟩, h5⟩ := h
    refine ⟨raw, rfl, ?_, h3, of_decide_eq_true h5, of_decide_eq_true h2⟩
    unfold answers calls
    rw [hc]
/-- a call as the document has it -/
theorem whole_form {p : Int} {r : List Int} {c : List (List Int)} {t : List Int} (h : Form p r c t) : whole c = c := by
  unfold whole
  split <;> rfl
end Br
end
section
set_option Elab.async false
set_option linter.all false
set_option maxRecDepth 100000
set_option maxHeartbeats 4000000
namespace Br
open PySem PySem.Spec PyProof.Rows L2 LamX NdefX BrK
/-- a call's number, what is given behind it, and the call that it stands for -/
inductive Ask : Int → List Int → Sr100.Call → Prop
  | c0 (d : Int) : Ask 0 [d] (.create d)
  | c1 (a b c : Int) : Ask 1 [a, b, c] (.addShop a b c)
  | c2 (i : Int) : Ask 2 [i] (.removeShop i)
  | c3 (i x : Int) : Ask 3 [i, x] (.setPosition i x)
  | c4 (i x : Int) : Ask 4 [i, x] (.setDeadline i x)
  | c5 (i x : Int) : Ask 5 [i, x] (.setLoaves i x)
  | c6 (d : Int) : Ask 6 [d] (.setDeparture d)
  | c7 : Ask 7 [] .earliestFinish
  | c8 : Ask 8 [] .bestRoute
  | c9 (a : List Int) (h : a.length ≤ 70) : Ask 9 ((a.length : Int) :: a) (.arrivalTimes a)
  | c10 (a : List Int) (h : a.length ≤ 70) : Ask 10 ((a.length : Int) :: a) (.checkRoute a)
  | c11 : Ask 11 [] .maxLoaves
  | c12 (m : Int) : Ask 12 [m] (.earliestFinishOf m)
  | c13 : Ask 13 [] .latestDeparture
  | c14 : Ask 14 [] .returnTime
  | c15 (i : Int) : Ask 15 [i] (.earliestFinishWithout i)
  | c16 : Ask 16 [] .describe
theorem ask_of {p : Int} {r : List Int} {c : List (List Int)} {t : List Int} (F : Form p r c t) (hb : PyInside.call PySr100.bound c = true) : ∃ gs call, Ask p gs call ∧ r = gs ++ t ∧ Sr100Neutral.parseCall (PySr100.whole c) = some call := by
  rw [whole_form F]
  cases F with
  | flat n a t h ha hr =>
    rcases shape_cases h with z | z | z | z | z | z | z | z | z | z | z | z | z | z | z | z | z <;> obtain ⟨rfl, rfl, z0⟩ := z
    · obtain ⟨x, rfl⟩ := one ha; exact ⟨_, _, .c0 x, hr, rfl⟩
    · obtain ⟨x, y, z, rfl⟩ := three (n := 0) ha; exact ⟨_, _, .c1 x y z, hr, rfl⟩
    · obtain ⟨x, rfl⟩ := one ha; exact ⟨_, _, .c2 x, hr, rfl⟩
    · obtain ⟨x, y, rfl⟩ := two ha; exact ⟨_, _, .c3 x y, hr, rfl⟩
    · obtain ⟨x, y, rfl⟩ := two ha; exact ⟨_, _, .c4 x y, hr, rfl⟩
    · obtain ⟨x, y, rfl⟩ := two ha; exact ⟨_, _, .c5 x y, hr, rfl⟩
    · obtain ⟨x, rfl⟩ := one ha; exact ⟨_, _, .c6 x, hr, rfl⟩
    · obtain rfl := List.eq_nil_of_length_eq_zero ha; exact ⟨_, _, .c7, hr, rfl⟩
    · obtain rfl := List.eq_nil_of_length_eq_zero ha; exact ⟨_, _, .c8, hr, rfl⟩
    · exact absurd z0 (by decide)
    · exact absurd z0 (by decide)
    · obtain rfl := List.eq_nil_of_length_eq_zero ha; exact ⟨_, _, .c11, hr, rfl⟩
    · obtain ⟨x, rfl⟩ := one ha; exact ⟨_, _, .c12 x, hr, rfl⟩
    · obtain rfl := List.eq_nil_of_length_eq_zero ha; exact ⟨_, _, .c13, hr, rfl⟩
    · obtain rfl := List.eq_nil_of_length_eq_zero ha; exact ⟨_, _, .c14, hr, rfl⟩
    · obtain ⟨x, rfl⟩ := one ha; exact ⟨_, _, .c15 x, hr, rfl⟩
    · obtain rfl := List.eq_nil_of_length_eq_zero ha; exact ⟨_, _, .c16, hr, rfl⟩
  | row m a t h ha hr =>
    subst ha
    have hp : p = 9 ∨ p = 10 := by
      have := shape_cases h
      omega
    have h70 : a.length ≤ 70 := by
      rcases hp with rfl | rfl
      · have q : PyInside.lists [(-2147483648, 2147483647, 0, 70)] [a] = true := hb
        unfold PyInside.lists at q
        simp only [Bool.and_eq_true, decide_eq_true_eq] at q
        exact q.1.1.2
      · have q : PyInside.lists [(-2147483648, 2147483647, 0, 70)] [a] = true := hb
        unfold PyInside.lists at q
        simp only [Bool.and_eq_true, decide_eq_true_eq] at q
        exact q.1.1.2
    rcases hp with rfl | rfl
    · exact ⟨_, _, .c9 a h70, hr, rfl⟩
    · exact ⟨_, _, .c10 a h70, hr, rfl⟩
/-! ### end_of_call -/
def wholeN : List Int := [1, 3, 1, 2, 2, 2, 1, 0, 0, 0, 0, 0, 1, 0, 0, 1, 0]
def withR : List Int := [9, 10]
theorem ask_end {p : Int} {gs : List Int} {c : Sr100.Call} (h : Ask p gs c) : ∃ (k : Nat) (n : Int), p = (k : Int) ∧ wholeN[k]? = some n ∧ ((inV (.int p) (withR.map V.int) = false ∧ n = (gs.length : Int)) ∨ (inV (.int p) (withR.map V.int) = true ∧ n = 0 ∧ ∃ a : List Int, gs = (a.length : Int) :: a)) := by
  cases h with
  | c0 d => exact ⟨0, 1, rfl, rfl, .inl ⟨by decide +kernel, rfl⟩⟩
  | c1 a b c => exact ⟨1, 3, rfl, rfl, .inl ⟨by decide +kernel, rfl⟩⟩
  | c2 i => exact ⟨2, 1, rfl, rfl, .inl ⟨by decide +kernel, rfl⟩⟩
  | c3 i x => exact ⟨3, 2, rfl, rfl, .inl ⟨by decide +kernel, rfl⟩⟩
  | c4 i x => exact ⟨4, 2, rfl, rfl, .inl ⟨by decide +kernel, rfl⟩⟩
  | c5 i x => exact ⟨5, 2, rfl, rfl, .inl ⟨by decide +kernel, rfl⟩⟩
  | c6 d => exact ⟨6, 1, rfl, rfl, .inl ⟨by decide +kernel, rfl⟩⟩
  | c7 => exact ⟨7, 0, rfl, rfl, .inl ⟨by decide +kernel, rfl⟩⟩
  | c8 => exact ⟨8, 0, rfl, rfl, .inl ⟨by decide +kernel, rfl⟩⟩
  | c9 a h => exact ⟨9, 0, rfl, rfl, .inr ⟨by decide +kernel, rfl, a, rfl⟩⟩
  | c10 a h => exact ⟨10, 0, rfl, rfl, .inr ⟨by decide +kernel, rfl, a, rfl⟩⟩
  | c11 => exact ⟨11, 0, rfl, rfl, .inl ⟨by decide +kernel, rfl⟩⟩
  | c12 m => exact ⟨12, 1, rfl, rfl, .inl ⟨by decide +kernel, rfl⟩⟩
  | c13 => exact ⟨13, 0, rfl, rfl, .inl ⟨by decide +kernel, rfl⟩⟩
  | c14 => exact ⟨14, 0, rfl, rfl, .inl ⟨by decide +kernel, rfl⟩⟩
  | c15 i => exact ⟨15, 1, rfl, rfl, .inl ⟨by decide +kernel, rfl⟩⟩
  | c16 => exact ⟨16, 0, rfl, rfl, .inl ⟨by decide +kernel, rfl⟩⟩
structure TxtN (K : PySem.W.Frag) (mg : Str → Option Value) : Prop where
  wh : ∃ t, mg "WHOLE_NUMBERS" = some (.ref t) ∧ ∀ H, SqT K H t (wholeN.map V.int)
  rw : ∃ t, mg "CALLS_WITH_A_ROUTE" = some (.ref t) ∧ ∀ H, SqT K H t (withR.map V.int)
  c0 : ∃ t, mg "CREATE" = some (.int 0 t)
  c1 : ∃ t, mg "ADD_SHOP" = some (.int 1 t)
  c2 : ∃ t, mg "REMOVE_SHOP" = some (.int 2 t)
  c3 : ∃ t, mg "SET_POSITION" = some (.int 3 t)
  c4 : ∃ t, mg "SET_DEADLINE" = some (.int 4 t)
  c5 : ∃ t, mg "SET_LOAVES" = some (.int 5 t)
  c6 : ∃ t, mg "SET_DEPARTURE" = some (.int 6 t)
  c7 : ∃ t, mg "EARLIEST_FINISH" = some (.int 7 t)
  c8 : ∃ t, mg "BEST_ROUTE" = some (.int 8 t)
  c9 : ∃ t, mg "ARRIVAL_TIMES" = some (.int 9 t)
  c10 : ∃ t, mg "CHECK_ROUTE" = some (.int 10 t)
  c11 : ∃ t, mg "MAX_LOAVES" = some (.int 11 t)
  c12 : ∃ t, mg "EARLIEST_FINISH_OF" = some (.int 12 t)
  c13 : ∃ t, mg "LATEST_DEPARTURE" = some (.int 13 t)
  c14 : ∃ t, mg "RETURN_TIME" = some (.int 14 t)
  c15 : ∃ t, mg "EARLIEST_FINISH_WITHOUT" = some (.int 15 t)
abbrev sEn : Stmt := top 46
def spEn (K : PySem.W.Frag) : Sp := fun vs H Q _ => ∃ (lc : Addr) (done gs t : List Int) (p : Int) (c : Sr100.Call), vs = [.ref lc, nv done.length] ∧ SqL K H lc ((done ++ p :: (gs ++ t)).map V.int) ∧ Ask p gs c ∧ Q (nv (done.length + 1 + gs.length)) H
section
variable {P : Program} {w : World} {K : PySem.W.Frag} {mg : Str → Option Value} {base : Heap} {CV CS Pt : Addr}
theorem at_done {done r : List Int} {p : Int} {i : Nat} {x : Int} (h : (p :: r)[i]? = some x) : atI ((done ++ p :: r).map V.int) ((done.length + i : Nat) : Int) = some (.int x) := by
  refine atI_nat ?_
  rw [List.getElem?_map, List.getElem?_append_right (Nat.le_add_right _ _), Nat.add_sub_cancel_left, h]
  rfl
theorem scEn : FnScope ["calls", "start", "number", "end"] ["calls", "start"] (defScope sEn) := ⟨rfl, rfl, rfl, by decide +kernel, rfl, by decide +kernel, by decide +kernel⟩
theorem ok_en {f : Addr} {fd : FuncData} (F : Fun K "end_of_call" "end_of_call" sEn f fd) (N : TxtN K mg) : FnOk P w K mg base CX0 1 f fd ["calls", "start"] (spEn K) := by
  refine F.ok scEn (fun vs H Q E h => ?_) (fun cdv A outer s H vs Q E hr h => ?_)
  · obtain ⟨_, _, _, _, _, _, rfl, _⟩ := h
    rfl
  · obtain ⟨lc, done, gs, t, p, c, rfl, hs, ha, k⟩ := h
    obtain ⟨tw, gW, hW⟩ := N.wh
    obtain ⟨tr, gC, hC⟩ := N.rw
    refine ⟨_, pss_cons (ps_set (i := 2) scEn.nd rfl (.inl rfl) (pe_ix ix_list (pv 0) (pv 1) (fun _ _ => rfl)))
      (pss_cons (ps_set (i := 3) scEn.nd rfl (.inl rfl) (pe_op op_add (pe_op op_add (pv 1) pe_int) (pe_ix ix_tup (pe_glob (v := .ref tw) (by rfl) gW rfl) (pv 2) (fun _ _ => rfl))))
      (pss_cons (ps_if (pt_cmpR op_in_seq (pv 2) (pe_glob (v := .ref tr) (by rfl) gC rfl) (by rfl)) (pss_one (ps_aug (i := 3) scEn.nd rfl (.inl rfl) (pe_op op_add pe_int (pe_ix ix_list (pv 0) (pv 3) (fun _ _ => rfl))) ip_add)) pss_nil)
      (pss_one (ps_ret (pv 3))))), ?_⟩
    obtain ⟨j, n, rfl, hn, hcase⟩ := ask_end ha
    refine ⟨_, rfl, _, rfl, lc, _, _, .int (j : Int), rfl, rfl, hs, at_done (i := 0) rfl, ?_⟩
    refine ⟨_, rfl, _, _, rfl, rfl, _, rfl, tw, _, _, .int n, rfl, rfl, hW _, atI_nat (j := j) (by rw [List.getElem?_map, hn]; rfl), _, _, rfl, rfl, ?_⟩
    refine ⟨_, rfl, tr, _, rfl, .inr (hC _), rfl, rfl, _, rfl, ?_⟩
    rcases hcase with ⟨h1, h2⟩ | ⟨h1, rfl, a, rfl⟩
    · refine ite2 (fun z => ?_) fun _ => ?_
      · have z' : inV (.int (j : Int)) (withR.map V.int) = true := z
        rw [h1] at z'
        exact Bool.noConfusion z'
      · refine ⟨_, rfl, ?_⟩
        have e : ((done.length : Nat) : Int) + 1 + n = ((done.length + 1 + gs.length : Nat) : Int) := by omega
        show Q (.int (((done.length : Nat) : Int) + 1 + n)) H
        rw [e]
        exact k
    · refine ite2 (fun _ => ?_) fun z => absurd h1 z
      refine ⟨_, rfl, _, rfl, _, rfl, lc, _, _, .int (a.length : Int), rfl, rfl, hs, ?_, _, _, rfl, rfl, _, _, rfl, rfl, ?_⟩
      · have e : ((done.length : Nat) : Int) + 1 + 0 = ((done.length + 1 : Nat) : Int) := by omega
        show atI _ (((done.length : Nat) : Int) + 1 + 0) = _
        rw [e]
        exact at_done (i := 1) rfl
      · refine ⟨_, rfl, ?_⟩
        have e : ((done.length : Nat) : Int) + 1 + 0 + (1 + (a.length : Int)) = ((done.length + 1 + ((a.length : Int) :: a).length : Nat) : Int) := by
          rw [List.length_cons]
          omega
        show Q (.int (((done.length : Nat) : Int) + 1 + 0 + (1 + (a.length : Int)))) H
        rw [e]
        exact k
end
end Br
end
section
set_option Elab.async false
set_option linter.all false
set_option maxRecDepth 100000
set_option maxHeartbeats 8000000
namespace Br
open PySem PySem.Spec PyProof.Rows L2 LamX NdefX BrK
abbrev sCha : Stmt := top 47
abbrev sQue : Stmt := top 48
/-- the promise of a def that hands a call on to the van -/
def spDis (CV CS Pt : Addr) (lo hi : Int) : Sp := fun vs H Q _ => ∃ (v l g : Addr) (as : List Addr) (st : Sr100.Street) (p : Int) (gs : List Int) (c : Sr100.Call), vs = [.ref v, .int p, .ref g] ∧ VanAt CV CS H v l as st ∧ Tabs (TbL Pt) H ∧ H g = some (.lst (gs.map V.int)) ∧ Ask p gs c ∧ lo ≤ p ∧ p ≤ hi ∧
  ∀ (H' : Hp) (a : Addr) (as' : List Addr), NewL H a → Keeps l H H' → Tabs (TbL Pt) H' → H' a = some (.lst ((out st c).2.map V.int)) → VanAt CV CS H' v l as' (out st c).1 → Q (.ref a) H'
theorem cut_tail (n : Int) (a : List Int) : cutV ((n :: a).map V.int) (some 1) none = a.map V.int := by
  unfold cutV
  rw [HT.sIx_none]
  have e : HT.sIx ((n :: a).map V.int).length 0 (some ((1 : Nat) : Int)) = min 1 ((n :: a).map V.int).length := HT.sIx_nat _ _ _
  have e1 : HT.sIx ((n :: a).map V.int).length 0 (some (1 : Int)) = 1 := e.trans (by rw [List.length_map, List.length_cons]; omega)
  rw [e1, List.map_cons, List.drop_succ_cons, List.drop_zero, List.length_cons, Nat.add_sub_cancel]
  exact List.take_length
section
variable {P : Program} {w : World} {K : PySem.W.Frag} {mg : Str → Option Value} {base : Heap} {CV CS Pt : Addr}
theorem scCha : FnScope ["van", "number", "given"] ["van", "number", "given"] (defScope sCha) := ⟨rfl, rfl, rfl, by decide +kernel, rfl, by decide +kernel, by decide +kernel⟩
theorem ok_cha {f fAdd fRem fPos fDea fLoa fDep : Addr} {fd fdAdd fdRem fdPos fdDea fdLoa fdDep : FuncData} (F : Fun K "answer_of_change" "answer_of_change" sCha f fd) (T : TxtV K mg CV CS) (N : TxtN K mg)
    (mAdd : Meth K CV "add_shop" fAdd) (GAdd : FnOk P w K mg base CX0 3 fAdd fdAdd ["self", "position", "deadline", "loaves"] (spCall CV CS Pt 3 mkAdd)) (bAdd : Binds K fdAdd ["self", "position", "deadline", "loaves"] [])
    (mRem : Meth K CV "remove_shop" fRem) (GRem : FnOk P w K mg base CX0 2 fRem fdRem ["self", "i"] (spCall CV CS Pt 1 (mk1 .removeShop))) (bRem : Binds K fdRem ["self", "i"] [])
    (mPos : Meth K CV "set_position" fPos) (GPos : FnOk P w K mg base CX0 2 fPos fdPos ["self", "i", "position"] (spCall CV CS Pt 2 (mk2 .setPosition))) (bPos : Binds K fdPos ["self", "i", "position"] [])
    (mDea : Meth K CV "set_deadline" fDea) (GDea : FnOk P w K mg base CX0 2 fDea fdDea ["self", "i", "deadline"] (spCall CV CS Pt 2 (mk2 .setDeadline))) (bDea : Binds K fdDea ["self", "i", "deadline"] [])
    (mLoa : Meth K CV "set_loaves" fLoa) (GLoa : FnOk P w K mg base CX0 2 fLoa fdLoa ["self", "i", "loaves"] (spCall CV CS Pt 2 (mk2 .setLoaves))) (bLoa : Binds K fdLoa ["self", "i", "loaves"] [])
    (mDep : Meth K CV "set_departure" fDep) (GDep : FnOk P w K mg base CX0 2 fDep fdDep ["self", "departure"] (spCall CV CS Pt 1 (mk1 .setDeparture))) (bDep : Binds K fdDep ["self", "departure"] []) :
    FnOk P w K mg base CX0 4 f fd ["van", "number", "given"] (spDis CV CS Pt 1 6) := by
  refine F.ok scCha (fun vs H Q E h => ?_) (fun cdv A outer s H vs Q E hr h => ?_)
  · obtain ⟨_, _, _, _, _, _, _, _, rfl, _⟩ := h
    rfl
  · obtain ⟨v, l, g, as, st, p, gs, c, rfl, A0, hT, hg, ha, hlo, hhi, k⟩ := h
    obtain ⟨dx, hv⟩ := A0.van
    have hr2 : Room 2 _ := hr.mono (by decide)
    refine ⟨_, pss_cons (ps_if (pt_cmpR op_eq (pv 1) (pgi (by rfl) N.c1) (nomark _)) (pss_one (ps_ret (pe_meth (pv 0) T.cl mAdd GAdd hr bAdd .nil pass0 (pa_cons (pe_ix ix_list (pv 2) pe_int (fun _ _ => rfl)) (pa_cons (pe_ix ix_list (pv 2) pe_int (fun _ _ => rfl)) (pa_cons (pe_ix ix_list (pv 2) pe_int (fun _ _ => rfl)) pa_nil)))))) pss_nil)
      (pss_cons (ps_if (pt_cmpR op_eq (pv 1) (pgi (by rfl) N.c2) (nomark _)) (pss_one (ps_ret (pe_meth (pv 0) T.cl mRem GRem hr2 bRem .nil pass0 (pa_cons (pe_ix ix_list (pv 2) pe_int (fun _ _ => rfl)) pa_nil)))) pss_nil)
      (pss_cons (ps_if (pt_cmpR op_eq (pv 1) (pgi (by rfl) N.c3) (nomark _)) (pss_one (ps_ret (pe_meth (pv 0) T.cl mPos GPos hr2 bPos .nil pass0 (pa_cons (pe_ix ix_list (pv 2) pe_int (fun _ _ => rfl)) (pa_cons (pe_ix ix_list (pv 2) pe_int (fun _ _ => rfl)) pa_nil))))) pss_nil)
      (pss_cons (ps_if (pt_cmpR op_eq (pv 1) (pgi (by rfl) N.c4) (nomark _)) (pss_one (ps_ret (pe_meth (pv 0) T.cl mDea GDea hr2 bDea .nil pass0 (pa_cons (pe_ix ix_list (pv 2) pe_int (fun _ _ => rfl)) (pa_cons (pe_ix ix_list (pv 2) pe_int (fun _ _ => rfl)) pa_nil))))) pss_nil)
      (pss_cons (ps_if (pt_cmpR op_eq (pv 1) (pgi (by rfl) N.c5) (nomark _)) (pss_one (ps_ret (pe_meth (pv 0) T.cl mLoa GLoa hr2 bLoa .nil pass0 (pa_cons (pe_ix ix_list (pv 2) pe_int (fun _ _ => rfl)) (pa_cons (pe_ix ix_list (pv 2) pe_int (fun _ _ => rfl)) pa_nil))))) pss_nil)
      (pss_one (ps_ret (pe_meth (pv 0) T.cl mDep GDep hr2 bDep .nil pass0 (pa_cons (pe_ix ix_list (pv 2) pe_int (fun _ _ => rfl)) pa_nil)))))))), ?_⟩
    cases ha with
    | c0 d => omega
    | c1 a b c =>
      refine ⟨_, rfl, rfl, _, rfl, ite2 (fun _ => ?_) (fun z => absurd (decide_eq_true rfl) z)⟩
      exact ⟨_, rfl, v, dx, _, rfl, hv, vanF_no _ _ (by decide) (by decide), _, rfl, g, _, _, _, rfl, rfl, SqL.of hg, atI_nat (j := 0) rfl, _, rfl, g, _, _, _, rfl, rfl, SqL.of hg, atI_nat (j := 1) rfl, _, rfl, g, _, _, _, rfl, rfl, SqL.of hg, atI_nat (j := 2) rfl, v, l, as, st, [a, b, c], rfl, rfl, A0, hT, k⟩
    | c2 i =>
      refine ⟨_, rfl, rfl, _, rfl, ite2 (fun z => absurd (V.int.inj (of_decide_eq_true z)) (by decide)) (fun _ => ?_)⟩
      refine ⟨_, rfl, rfl, _, rfl, ite2 (fun _ => ?_) (fun z => absurd (decide_eq_true rfl) z)⟩
      exact ⟨_, rfl, v, dx, _, rfl, hv, vanF_no _ _ (by decide) (by decide), _, rfl, g, _, _, _, rfl, rfl, SqL.of hg, atI_nat (j := 0) rfl, v, l, as, st, [i], rfl, rfl, A0, hT, k⟩
    | c3 i x =>
      refine ⟨_, rfl, rfl, _, rfl, ite2 (fun z => absurd (V.int.inj (of_decide_eq_true z)) (by decide)) (fun _ => ?_)⟩
      refine ⟨_, rfl, rfl, _, rfl, ite2 (fun z => absurd (V.int.inj (of_decide_eq_true z)) (by decide)) (fun _ => ?_)⟩
      refine ⟨_, rfl, rfl, _, rfl, ite2 (fun _ => ?_) (fun z => absurd (decide_eq_true rfl) z)⟩
      exact ⟨_, rfl, v, dx, _, rfl, hv, vanF_no _ _ (by decide) (by decide), _, rfl, g, _, _, _, rfl, rfl, SqL.of hg, atI_nat (j := 0) rfl, _, rfl, g, _, _, _, rfl, rfl, SqL.of hg, atI_nat (j := 1) rfl, v, l, as, st, [i, x], rfl, rfl, A0, hT, k⟩
    | c4 i x =>
      refine ⟨_, rfl, rfl, _, rfl, ite2 (fun z => absurd (V.int.inj (of_decide_eq_true z)) (by decide)) (fun _ => ?_)⟩
      refine ⟨_, rfl, rfl, _, rfl, ite2 (fun z => absurd (V.int.inj (of_decide_eq_true z)) (by decide)) (fun _ => ?_)⟩
      refine ⟨_, rfl, rfl, _, rfl, ite2 (fun z => absurd (V.int.inj (of_decide_eq_true z)) (by decide)) (fun _ => ?_)⟩
      refine ⟨_, rfl, rfl, _, rfl, ite2 (fun _ => ?_) (fun z => absurd (decide_eq_true rfl) z)⟩
      exact ⟨_, rfl, v, dx, _, rfl, hv, vanF_no _ _ (by decide) (by decide), _, rfl, g, _, _, _, rfl, rfl, SqL.of hg, atI_nat (j := 0) rfl, _, rfl, g, _, _, _, rfl, rfl, SqL.of hg, atI_nat (j := 1) rfl, v, l, as, st, [i, x], rfl, rfl, A0, hT, k⟩
    | c5 i x =>
      refine ⟨_, rfl, rfl, _, rfl, ite2 (fun z => absurd (V.int.inj (of_decide_eq_true z)) (by decide)) (fun _ => ?_)⟩
      refine ⟨_, rfl, rfl, _, rfl, ite2 (fun z => absurd (V.int.inj (of_decide_eq_true z)) (by decide)) (fun _ => ?_)⟩
      refine ⟨_, rfl, rfl, _, rfl, ite2 (fun z => absurd (V.int.inj (of_decide_eq_true z)) (by decide)) (fun _ => ?_)⟩
      refine ⟨_, rfl, rfl, _, rfl, ite2 (fun z => absurd (V.int.inj (of_decide_eq_true z)) (by decide)) (fun _ => ?_)⟩
      refine ⟨_, rfl, rfl, _, rfl, ite2 (fun _ => ?_) (fun z => absurd (decide_eq_true rfl) z)⟩
      exact ⟨_, rfl, v, dx, _, rfl, hv, vanF_no _ _ (by decide) (by decide), _, rfl, g, _, _, _, rfl, rfl, SqL.of hg, atI_nat (j := 0) rfl, _, rfl, g, _, _, _, rfl, rfl, SqL.of hg, atI_nat (j := 1) rfl, v, l, as, st, [i, x], rfl, rfl, A0, hT, k⟩
    | c6 d =>
      refine ⟨_, rfl, rfl, _, rfl, ite2 (fun z => absurd (V.int.inj (of_decide_eq_true z)) (by decide)) (fun _ => ?_)⟩
      refine ⟨_, rfl, rfl, _, rfl, ite2 (fun z => absurd (V.int.inj (of_decide_eq_true z)) (by decide)) (fun _ => ?_)⟩
      refine ⟨_, rfl, rfl, _, rfl, ite2 (fun z => absurd (V.int.inj (of_decide_eq_true z)) (by decide)) (fun _ => ?_)⟩
      refine ⟨_, rfl, rfl, _, rfl, ite2 (fun z => absurd (V.int.inj (of_decide_eq_true z)) (by decide)) (fun _ => ?_)⟩
      refine ⟨_, rfl, rfl, _, rfl, ite2 (fun z => absurd (V.int.inj (of_decide_eq_true z)) (by decide)) (fun _ => ?_)⟩
      exact ⟨_, rfl, v, dx, _, rfl, hv, vanF_no _ _ (by decide) (by decide), _, rfl, g, _, _, _, rfl, rfl, SqL.of hg, atI_nat (j := 0) rfl, v, l, as, st, [d], rfl, rfl, A0, hT, k⟩
    | c7 => omega
    | c8 => omega
    | c9 a h => omega
    | c10 a h => omega
    | c11 => omega
    | c12 m => omega
    | c13 => omega
    | c14 => omega
    | c15 i => omega
    | c16 => omega
theorem scQue : FnScope ["van", "number", "given"] ["van", "number", "given"] (defScope sQue) := ⟨rfl, rfl, rfl, by decide +kernel, rfl, by decide +kernel, by decide +kernel⟩
theorem ok_que {f fEf fBr fAt fCh fMl fEo fLd fRt fEw fDe : Addr} {fd fdEf fdBr fdAt fdCh fdMl fdEo fdLd fdRt fdEw fdDe : FuncData} (F : Fun K "answer_of_query" "answer_of_query" sQue f fd) (T : TxtV K mg CV CS) (N : TxtN K mg)
    (mEf : Meth K CV "earliest_finish" fEf) (GEf : FnOk P w K mg base CX0 8 fEf fdEf ["self"] (spCall CV CS Pt 0 (fun _ => .earliestFinish))) (bEf : Binds K fdEf ["self"] [])
    (mBr : Meth K CV "best_route" fBr) (GBr : FnOk P w K mg base CX0 8 fBr fdBr ["self"] (spCall CV CS Pt 0 (fun _ => .bestRoute))) (bBr : Binds K fdBr ["self"] [])
    (mAt : Meth K CV "arrival_times" fAt) (GAt : FnOk P w K mg base CX0 3 fAt fdAt ["self", "route"] (spRoute K CV CS Pt .arrivalTimes)) (bAt : Binds K fdAt ["self", "route"] [])
    (mCh : Meth K CV "check_route" fCh) (GCh : FnOk P w K mg base CX0 3 fCh fdCh ["self", "route"] (spRoute K CV CS Pt .checkRoute)) (bCh : Binds K fdCh ["self", "route"] [])
    (mMl : Meth K CV "max_loaves" fMl) (GMl : FnOk P w K mg base CX0 8 fMl fdMl ["self"] (spCall CV CS Pt 0 (fun _ => .maxLoaves))) (bMl : Binds K fdMl ["self"] [])
    (mEo : Meth K CV "earliest_finish_of" fEo) (GEo : FnOk P w K mg base CX0 8 fEo fdEo ["self", "mask"] (spCall CV CS Pt 1 (mk1 .earliestFinishOf))) (bEo : Binds K fdEo ["self", "mask"] [])
    (mLd : Meth K CV "latest_departure" fLd) (GLd : FnOk P w K mg base CX0 7 fLd fdLd ["self"] (spCall CV CS Pt 0 (fun _ => .latestDeparture))) (bLd : Binds K fdLd ["self"] [])
    (mRt : Meth K CV "return_time" fRt) (GRt : FnOk P w K mg base CX0 8 fRt fdRt ["self"] (spCall CV CS Pt 0 (fun _ => .returnTime))) (bRt : Binds K fdRt ["self"] [])
    (mEw : Meth K CV "earliest_finish_without" fEw) (GEw : FnOk P w K mg base CX0 8 fEw fdEw ["self", "i"] (spCall CV CS Pt 1 (mk1 .earliestFinishWithout))) (bEw : Binds K fdEw ["self", "i"] [])
    (mDe : Meth K CV "describe" fDe) (GDe : FnOk P w K mg base CX0 1 fDe fdDe ["self"] (spCall CV CS Pt 0 (fun _ => .describe))) (bDe : Binds K fdDe ["self"] []) :
    FnOk P w K mg base CX0 9 f fd ["van", "number", "given"] (spDis CV CS Pt 7 16) := by
  refine F.ok scQue (fun vs H Q E h => ?_) (fun cdv A outer s H vs Q E hr h => ?_)
  · obtain ⟨_, _, _, _, _, _, _, _, rfl, _⟩ := h
    rfl
  · obtain ⟨v, l, g, as, st, p, gs, c, rfl, A0, hT, hg, ha, hlo, hhi, k⟩ := h
    obtain ⟨dx, hv⟩ := A0.van
    have hr1 : Room 1 _ := hr.mono (by decide)
    have hr3 : Room 3 _ := hr.mono (by decide)
    have hr7 : Room 7 _ := hr.mono (by decide)
    refine ⟨_, pss_cons (ps_if (pt_cmpR op_eq (pv 1) (pgi (by rfl) N.c7) (nomark _)) (pss_one (ps_ret (pe_meth0 (pv 0) T.cl mEf GEf hr bEf .nil pass0))) pss_nil)
      (pss_cons (ps_if (pt_cmpR op_eq (pv 1) (pgi (by rfl) N.c8) (nomark _)) (pss_one (ps_ret (pe_meth0 (pv 0) T.cl mBr GBr hr bBr .nil pass0))) pss_nil)
      (pss_cons (ps_if (pt_cmpR op_eq (pv 1) (pgi (by rfl) N.c9) (nomark _)) (pss_one (ps_ret (pe_meth (pv 0) T.cl mAt GAt hr3 bAt .nil pass0 (pa_cons (pe_slice sl_list (pv 2) (po_some pe_int) po_none) pa_nil)))) pss_nil)
      (pss_cons (ps_if (pt_cmpR op_eq (pv 1) (pgi (by rfl) N.c10) (nomark _)) (pss_one (ps_ret (pe_meth (pv 0) T.cl mCh GCh hr3 bCh .nil pass0 (pa_cons (pe_slice sl_list (pv 2) (po_some pe_int) po_none) pa_nil)))) pss_nil)
      (pss_cons (ps_if (pt_cmpR op_eq (pv 1) (pgi (by rfl) N.c11) (nomark _)) (pss_one (ps_ret (pe_meth0 (pv 0) T.cl mMl GMl hr bMl .nil pass0))) pss_nil)
      (pss_cons (ps_if (pt_cmpR op_eq (pv 1) (pgi (by rfl) N.c12) (nomark _)) (pss_one (ps_ret (pe_meth (pv 0) T.cl mEo GEo hr bEo .nil pass0 (pa_cons (pe_ix ix_list (pv 2) pe_int (fun _ _ => rfl)) pa_nil)))) pss_nil)
      (pss_cons (ps_if (pt_cmpR op_eq (pv 1) (pgi (by rfl) N.c13) (nomark _)) (pss_one (ps_ret (pe_meth0 (pv 0) T.cl mLd GLd hr7 bLd .nil pass0))) pss_nil)
      (pss_cons (ps_if (pt_cmpR op_eq (pv 1) (pgi (by rfl) N.c14) (nomark _)) (pss_one (ps_ret (pe_meth0 (pv 0) T.cl mRt GRt hr bRt .nil pass0))) pss_nil)
      (pss_cons (ps_if (pt_cmpR op_eq (pv 1) (pgi (by rfl) N.c15) (nomark _)) (pss_one (ps_ret (pe_meth (pv 0) T.cl mEw GEw hr bEw .nil pass0 (pa_cons (pe_ix ix_list (pv 2) pe_int (fun _ _ => rfl)) pa_nil)))) pss_nil)
      (pss_one (ps_ret (pe_meth0 (pv 0) T.cl mDe GDe hr1 bDe .nil pass0))))))))))), ?_⟩
    cases ha with
    | c0 d => omega
    | c1 a b c => omega
    | c2 i => omega
    | c3 i x => omega
    | c4 i x => omega
    | c5 i x => omega
    | c6 d => omega
    | c7 =>
      refine ⟨_, rfl, rfl, _, rfl, ite2 (fun _ => ?_) (fun z => absurd (decide_eq_true rfl) z)⟩
      exact ⟨_, rfl, v, dx, _, rfl, hv, vanF_no _ _ (by decide) (by decide), v, l, as, st, [], rfl, rfl, A0, hT, k⟩
    | c8 =>
      refine ⟨_, rfl, rfl, _, rfl, ite2 (fun z => absurd (V.int.inj (of_decide_eq_true z)) (by decide)) (fun _ => ?_)⟩
      refine ⟨_, rfl, rfl, _, rfl, ite2 (fun _ => ?_) (fun z => absurd (decide_eq_true rfl) z)⟩
      exact ⟨_, rfl, v, dx, _, rfl, hv, vanF_no _ _ (by decide) (by decide), v, l, as, st, [], rfl, rfl, A0, hT, k⟩
    | c9 a h =>
      refine ⟨_, rfl, rfl, _, rfl, ite2 (fun z => absurd (V.int.inj (of_decide_eq_true z)) (by decide)) (fun _ => ?_)⟩
      refine ⟨_, rfl, rfl, _, rfl, ite2 (fun z => absurd (V.int.inj (of_decide_eq_true z)) (by decide)) (fun _ => ?_)⟩
      refine ⟨_, rfl, rfl, _, rfl, ite2 (fun _ => ?_) (fun z => absurd (decide_eq_true rfl) z)⟩
      refine ⟨_, rfl, v, dx, _, rfl, hv, vanF_no _ _ (by decide) (by decide), _, rfl, _, rfl, g, _, rfl, SqL.of hg, fun q hq => ?_⟩
      rw [cut_tail]
      have s1 : Same H (upd H q (.lst (a.map V.int))) := same_new (Same.refl _) hq
      exact ⟨v, l, q, as, st, a, rfl, A0.ext (.of s1), SqL.of upd_same, by omega, hT.ext s1, fun H' b as' n1 k1 t1 h1 v1 => k H' b as' (n1.ext (.of s1)) ((Keeps.of (.of s1)).trans k1) t1 h1 v1⟩
    | c10 a h =>
      refine ⟨_, rfl, rfl, _, rfl, ite2 (fun z => absurd (V.int.inj (of_decide_eq_true z)) (by decide)) (fun _ => ?_)⟩
      refine ⟨_, rfl, rfl, _, rfl, ite2 (fun z => absurd (V.int.inj (of_decide_eq_true z)) (by decide)) (fun _ => ?_)⟩
      refine ⟨_, rfl, rfl, _, rfl, ite2 (fun z => absurd (V.int.inj (of_decide_eq_true z)) (by decide)) (fun _ => ?_)⟩
      refine ⟨_, rfl, rfl, _, rfl, ite2 (fun _ => ?_) (fun z => absurd (decide_eq_true rfl) z)⟩
      refine ⟨_, rfl, v, dx, _, rfl, hv, vanF_no _ _ (by decide) (by decide), _, rfl, _, rfl, g, _, rfl, SqL.of hg, fun q hq => ?_⟩
      rw [cut_tail]
      have s1 : Same H (upd H q (.lst (a.map V.int))) := same_new (Same.refl _) hq
      exact ⟨v, l, q, as, st, a, rfl, A0.ext (.of s1), SqL.of upd_same, by omega, hT.ext s1, fun H' b as' n1 k1 t1 h1 v1 => k H' b as' (n1.ext (.of s1)) ((Keeps.of (.of s1)).trans k1) t1 h1 v1⟩
    | c11 =>
      refine ⟨_, rfl, rfl, _, rfl, ite2 (fun z => absurd (V.int.inj (of_decide_eq_true z)) (by decide)) (fun _ => ?_)⟩
      refine ⟨_, rfl, rfl, _, rfl, ite2 (fun z => absurd (V.int.inj (of_decide_eq_true z)) (by decide)) (fun _ => ?_)⟩
      refine ⟨_, rfl, rfl, _, rfl, ite2 (fun z => absurd (V.int.inj (of_decide_eq_true z)) (by decide)) (fun _ => ?_)⟩
      refine ⟨_, rfl, rfl, _, rfl, ite2 (fun z => absurd (V.int.inj (of_decide_eq_true z)) (by decide)) (fun _ => ?_)⟩
      refine ⟨_, rfl, rfl, _, rfl, ite2 (fun _ => ?_) (fun z => absurd (decide_eq_true rfl) z)⟩
      exact ⟨_, rfl, v, dx, _, rfl, hv, vanF_no _ _ (by decide) (by decide), v, l, as, st, [], rfl, rfl, A0, hT, k⟩
    | c12 m =>
      refine ⟨_, rfl, rfl, _, rfl, ite2 (fun z => absurd (V.int.inj (of_decide_eq_true z)) (by decide)) (fun _ => ?_)⟩
      refine ⟨_, rfl, rfl, _, rfl, ite2 (fun z => absurd (V.int.inj (of_decide_eq_true z)) (by decide)) (fun _ => ?_)⟩
      refine ⟨_, rfl, rfl, _, rfl, ite2 (fun z => absurd (V.int.inj (of_decide_eq_true z)) (by decide)) (fun _ => ?_)⟩
      refine ⟨_, rfl, rfl, _, rfl, ite2 (fun z => absurd (V.int.inj (of_decide_eq_true z)) (by decide)) (fun _ => ?_)⟩
      refine ⟨_, rfl, rfl, _, rfl, ite2 (fun z => absurd (V.int.inj (of_decide_eq_true z)) (by decide)) (fun _ => ?_)⟩
      refine ⟨_, rfl, rfl, _, rfl, ite2 (fun _ => ?_) (fun z => absurd (decide_eq_true rfl) z)⟩
      exact ⟨_, rfl, v, dx, _, rfl, hv, vanF_no _ _ (by decide) (by decide), _, rfl, g, _, _, _, rfl, rfl, SqL.of hg, atI_nat (j := 0) rfl, v, l, as, st, [m], rfl, rfl, A0, hT, k⟩
    | c13 =>
      refine ⟨_, rfl, rfl, _, rfl, ite2 (fun z => absurd (V.int.inj (of_decide_eq_true z)) (by decide)) (fun _ => ?_)⟩
      refine ⟨_, rfl, rfl, _, rfl, ite2 (fun z => absurd (V.int.inj (of_decide_eq_true z)) (by decide)) (fun _ => ?_)⟩
      refine ⟨_, rfl, rfl, _, rfl, ite2 (fun z => absurd (V.int.inj (of_decide_eq_true z)) (by decide)) (fun _ => ?_)⟩
      refine ⟨_, rfl, rfl, _, rfl, ite2 (fun z => absurd (V.int.inj (of_decide_eq_true z)) (by decide)) (fun _ => ?_)⟩
      refine ⟨_, rfl, rfl, _, rfl, ite2 (fun z => absurd (V.int.inj (of_decide_eq_true z)) (by decide)) (fun _ => ?_)⟩
      refine ⟨_, rfl, rfl, _, rfl, ite2 (fun z => absurd (V.int.inj (of_decide_eq_true z)) (by decide)) (fun _ => ?_)⟩
      refine ⟨_, rfl, rfl, _, rfl, ite2 (fun _ => ?_) (fun z => absurd (decide_eq_true rfl) z)⟩
      exact ⟨_, rfl, v, dx, _, rfl, hv, vanF_no _ _ (by decide) (by decide), v, l, as, st, [], rfl, rfl, A0, hT, k⟩
    | c14 =>
      refine ⟨_, rfl, rfl, _, rfl, ite2 (fun z => absurd (V.int.inj (of_decide_eq_true z)) (by decide)) (fun _ => ?_)⟩
      refine ⟨_, rfl, rfl, _, rfl, ite2 (fun z => absurd (V.int.inj (of_decide_eq_true z)) (by decide)) (fun _ => ?_)⟩
      refine ⟨_, rfl, rfl, _, rfl, ite2 (fun z => absurd (V.int.inj (of_decide_eq_true z)) (by decide)) (fun _ => ?_)⟩
      refine ⟨_, rfl, rfl, _, rfl, ite2 (fun z => absurd (V.int.inj (of_decide_eq_true z)) (by decide)) (fun _ => ?_)⟩
      refine ⟨_, rfl, rfl, _, rfl, ite2 (fun z => absurd (V.int.inj (of_decide_eq_true z)) (by decide)) (fun _ => ?_)⟩
      refine ⟨_, rfl, rfl, _, rfl, ite2 (fun z => absurd (V.int.inj (of_decide_eq_true z)) (by decide)) (fun _ => ?_)⟩
      refine ⟨_, rfl, rfl, _, rfl, ite2 (fun z => absurd (V.int.inj (of_decide_eq_true z)) (by decide)) (fun _ => ?_)⟩
      refine ⟨_, rfl, rfl, _, rfl, ite2 (fun _ => ?_) (fun z => absurd (decide_eq_true rfl) z)⟩
      exact ⟨_, rfl, v, dx, _, rfl, hv, vanF_no _ _ (by decide) (by decide), v, l, as, st, [], rfl, rfl, A0, hT, k⟩
    | c15 i =>
      refine ⟨_, rfl, rfl, _, rfl, ite2 (fun z => absurd (V.int.inj (of_decide_eq_true z)) (by decide)) (fun _ => ?_)⟩
      refine ⟨_, rfl, rfl, _, rfl, ite2 (fun z => absurd (V.int.inj (of_decide_eq_true z)) (by decide)) (fun _ => ?_)⟩
      refine ⟨_, rfl, rfl, _, rfl, ite2 (fun z => absurd (V.int.inj (of_decide_eq_true z)) (by decide)) (fun _ => ?_)⟩
      refine ⟨_, rfl, rfl, _, rfl, ite2 (fun z => absurd (V.int.inj (of_decide_eq_true z)) (by decide)) (fun _ => ?_)⟩
      refine ⟨_, rfl, rfl, _, rfl, ite2 (fun z => absurd (V.int.inj (of_decide_eq_true z)) (by decide)) (fun _ => ?_)⟩
      refine ⟨_, rfl, rfl, _, rfl, ite2 (fun z => absurd (V.int.inj (of_decide_eq_true z)) (by decide)) (fun _ => ?_)⟩
      refine ⟨_, rfl, rfl, _, rfl, ite2 (fun z => absurd (V.int.inj (of_decide_eq_true z)) (by decide)) (fun _ => ?_)⟩
      refine ⟨_, rfl, rfl, _, rfl, ite2 (fun z => absurd (V.int.inj (of_decide_eq_true z)) (by decide)) (fun _ => ?_)⟩
      refine ⟨_, rfl, rfl, _, rfl, ite2 (fun _ => ?_) (fun z => absurd (decide_eq_true rfl) z)⟩
      exact ⟨_, rfl, v, dx, _, rfl, hv, vanF_no _ _ (by decide) (by decide), _, rfl, g, _, _, _, rfl, rfl, SqL.of hg, atI_nat (j := 0) rfl, v, l, as, st, [i], rfl, rfl, A0, hT, k⟩
    | c16 =>
      refine ⟨_, rfl, rfl, _, rfl, ite2 (fun z => absurd (V.int.inj (of_decide_eq_true z)) (by decide)) (fun _ => ?_)⟩
      refine ⟨_, rfl, rfl, _, rfl, ite2 (fun z => absurd (V.int.inj (of_decide_eq_true z)) (by decide)) (fun _ => ?_)⟩
      refine ⟨_, rfl, rfl, _, rfl, ite2 (fun z => absurd (V.int.inj (of_decide_eq_true z)) (by decide)) (fun _ => ?_)⟩
      refine ⟨_, rfl, rfl, _, rfl, ite2 (fun z => absurd (V.int.inj (of_decide_eq_true z)) (by decide)) (fun _ => ?_)⟩
      refine ⟨_, rfl, rfl, _, rfl, ite2 (fun z => absurd (V.int.inj (of_decide_eq_true z)) (by decide)) (fun _ => ?_)⟩
      refine ⟨_, rfl, rfl, _, rfl, ite2 (fun z => absurd (V.int.inj (of_decide_eq_true z)) (by decide)) (fun _ => ?_)⟩
      refine ⟨_, rfl, rfl, _, rfl, ite2 (fun z => absurd (V.int.inj (of_decide_eq_true z)) (by decide)) (fun _ => ?_)⟩
      refine ⟨_, rfl, rfl, _, rfl, ite2 (fun z => absurd (V.int.inj (of_decide_eq_true z)) (by decide)) (fun _ => ?_)⟩
      refine ⟨_, rfl, rfl, _, rfl, ite2 (fun z => absurd (V.int.inj (of_decide_eq_true z)) (by decide)) (fun _ => ?_)⟩
      exact ⟨_, rfl, v, dx, _, rfl, hv, vanF_no _ _ (by decide) (by decide), v, l, as, st, [], rfl, rfl, A0, hT, k⟩
end
end Br
end
section
set_option Elab.async false
set_option linter.all false
set_option maxRecDepth 100000
set_option maxHeartbeats 4000000
namespace Br
open PySem PySem.Spec PyProof.Rows L2 LamX NdefX BrK
/-! ### what the walk over the calls keeps -/
def Keeps2 (l t : Addr) (H H' : Hp) : Prop := ∀ b o, b ≠ l → b ≠ t → (∀ ps, o ≠ .tbl ps) → (∀ C dx fs, o ≠ .ins C dx fs) → H b = some o → H' b = some o
theorem Keeps.two {l t : Addr} {H H' : Hp} (k : Keeps l H H') : Keeps2 l t H H' := fun b o h1 _ h3 h4 e => k b o h1 h3 h4 e
theorem Keeps2.same {l t : Addr} {H H' : Hp} (s : Same H H') : Keeps2 l t H H' := fun b o _ _ _ _ e => s b o e
theorem Keeps2.upd {l t : Addr} {H : Hp} {u : HO} : Keeps2 l t H (upd H t u) := fun b o _ h _ _ e => by rw [upd_ne h]; exact e
theorem Keeps2.trans {l t : Addr} {H H1 H2 : Hp} (a : Keeps2 l t H H1) (b : Keeps2 l t H1 H2) : Keeps2 l t H H2 := fun c o h1 h2 h3 h4 e => b c o h1 h2 h3 h4 (a c o h1 h2 h3 h4 e)
/-- the list of the calls stands, whatever happens at l and t -/
def Fix (K : PySem.W.Frag) (lc : Addr) (xs : List V) (l t : Addr) (H : Hp) : Prop := ∀ H', Keeps2 l t H H' → SqL K H' lc xs
section
variable {K : PySem.W.Frag} {lc l t l' : Addr} {xs : List V} {H H1 : Hp}
theorem Fix.sq (f : Fix K lc xs l t H) : SqL K H lc xs := f H fun _ _ _ _ _ _ e => e
theorem Fix.step (f : Fix K lc xs l t H) (k : Keeps2 l t H H1) : Fix K lc xs l t H1 := fun H' k' => f H' (k.trans k')
theorem Fix.new (f : Fix K lc xs l t H) (n : H l' = none) (s : Same H H1) : Fix K lc xs l' t H1 := fun H' k => f H' fun b o h1 h2 h3 h4 e => k b o (ne_of_none e n) h2 h3 h4 (s b o e)
theorem Fix.of (h : SqL K H lc xs) (n : H t = none) (s : Same H H1) : Fix K lc xs t t H1 := fun H' k => by
  rcases h with h | h
  · rcases h with h | ⟨o, h⟩
    · exact .inl (.inl (k _ _ (ne_of_none h n) (ne_of_none h n) (fun ps z => by cases z) (fun C dx fs z => by cases z) (s _ _ h)))
    · exact .inl (.inr ⟨o, k _ _ (ne_of_none h n) (ne_of_none h n) (fun ps z => by cases z) (fun C dx fs z => by cases z) (s _ _ h)⟩)
  · exact .inr h
end
/-- the van that there is, or none -/
def VanOk (K : PySem.W.Frag) (CV CS : Addr) (H : Hp) (t lc : Addr) (xs : List V) (vv : V) : Option Sr100.Street → Prop
  | none => vv = .non ∧ Fix K lc xs t t H
  | some st => ∃ v l as, vv = .ref v ∧ VanAt CV CS H v l as st ∧ l ≠ t ∧ Fix K lc xs l t H
section
variable {K : PySem.W.Frag} {CV CS t lc : Addr} {xs : List V} {vv : V} {H H1 : Hp}
theorem VanOk.sq : ∀ {s : Option Sr100.Street}, VanOk K CV CS H t lc xs vv s → SqL K H lc xs
  | none, ⟨_, f⟩ => f.sq
  | some _, ⟨_, _, _, _, _, _, f⟩ => f.sq
theorem VanOk.same (q : Same H H1) : ∀ {s : Option Sr100.Street}, VanOk K CV CS H t lc xs vv s → VanOk K CV CS H1 t lc xs vv s
  | none, ⟨e, f⟩ => ⟨e, f.step (.same q)⟩
  | some _, ⟨v, l, as, e, A, n, f⟩ => ⟨v, l, as, e, A.ext (.of q), n, f.step (.same q)⟩
theorem VanAt.told {v l : Addr} {as : List Addr} {st : Sr100.Street} {ys zs : List V} (A : VanAt CV CS H v l as st) (n : l ≠ t) (h : H t = some (.lst ys)) : VanAt CV CS (upd H t (.lst zs)) v l as st := by
  obtain ⟨dx, hv⟩ := A.van
  have ni : ∀ (b C d : Addr) (fs : List (Str × V)), H b = some (.ins C d fs) → b ≠ t := fun b C d fs e z => by
    rw [z, h] at e
    cases e
  refine ⟨⟨dx, by rw [upd_ne (ni _ _ _ _ hv)]; exact hv⟩, ⟨by rw [upd_ne n]; exact A.shops.lst, A.shops.len, A.shops.nd, fun j a s h1 h2 => ?_⟩, A.seven⟩
  obtain ⟨dy, e⟩ := A.shops.at_ j a s h1 h2
  exact ⟨dy, by rw [upd_ne (ni _ _ _ _ e)]; exact e⟩
theorem VanOk.told {ys zs : List V} (h : H t = some (.lst ys)) : ∀ {s : Option Sr100.Street}, VanOk K CV CS H t lc xs vv s → VanOk K CV CS (upd H t (.lst zs)) t lc xs vv s
  | none, ⟨e, f⟩ => ⟨e, f.step .upd⟩
  | some _, ⟨v, l, as, e, A, n, f⟩ => ⟨v, l, as, e, A.told n h, n, f.step .upd⟩
end
theorem tabs_told {T : List (Addr × Str)} {H : Hp} {t : Addr} {ys zs : List V} (q : Tabs T H) (h : H t = some (.lst ys)) : Tabs T (upd H t (.lst zs)) :=
  StepL.tabs (l := t) (fun b o hb _ e => by rw [upd_ne hb]; exact e) h q
/-! ### a call's step -/
theorem nstep {s : Sr100Neutral.S} {c : Sr100Neutral.Call} {call : Sr100.Call} (h : Sr100Neutral.parseCall c = some call) : Sr100Neutral.step s c = ((Sr100.step s call).1, (Sr100.step s call).2.code :: (Sr100.step s call).2.values) := by
  unfold Sr100Neutral.step
  rw [h]
theorem step_rest {p : Int} {gs : List Int} {c : Sr100.Call} (h : Ask p gs c) (hp : p ≠ 0) (s : Option Sr100.Street) : Sr100.step s c = match s with
    | none => (none, .ofCode SrCommon.notCreated)
    | some st => match Sr100.perform st c with
      | (some changed, result) => (some changed, result)
      | (none, result) => (s, result) := by
  cases h with
  | c0 d => exact absurd rfl hp
  | _ => rfl
theorem step_none {p : Int} {gs : List Int} {c : Sr100.Call} (h : Ask p gs c) (hp : p ≠ 0) : Sr100.step none c = (none, ⟨-11, []⟩) := step_rest h hp none
theorem step_some {p : Int} {gs : List Int} {c : Sr100.Call} (h : Ask p gs c) (hp : p ≠ 0) (st : Sr100.Street) : (Sr100.step (some st) c).1 = some (out st c).1 ∧ (Sr100.step (some st) c).2.code :: (Sr100.step (some st) c).2.values = (out st c).2 := by
  rw [step_rest h hp]
  unfold out
  dsimp only
  generalize Sr100.perform st c = r
  obtain ⟨o, r⟩ := r
  cases o with
  | none => exact ⟨rfl, rfl⟩
  | some st' => exact ⟨rfl, rfl⟩
theorem step_make {d : Int} (h : Sr100.isTime d = true) (s : Option Sr100.Street) : Sr100.step s (.create d) = (some ⟨[], d.toNat⟩, ⟨0, []⟩) := by
  show (if Sr100.isTime d = false then _ else _) = _
  rw [if_neg (by rw [h]; exact Bool.noConfusion)]
  rfl
theorem step_bad {d : Int} (h : Sr100.isTime d = false) (s : Option Sr100.Street) : Sr100.step s (.create d) = (s, ⟨-22, []⟩) := by
  show (if Sr100.isTime d = false then _ else _) = _
  rw [if_pos h]
  rfl
theorem ask_num {p : Int} {gs : List Int} {c : Sr100.Call} (h : Ask p gs c) : 0 ≤ p ∧ p ≤ 16 := by
  cases h <;> exact ⟨by decide, by decide⟩
theorem ask_zero {p : Int} {gs : List Int} {c : Sr100.Call} (h : Ask p gs c) (hp : p = 0) : ∃ d, gs = [d] ∧ c = .create d := by
  cases h with
  | c0 d => exact ⟨d, rfl, rfl⟩
  | _ => exact absurd hp (by decide)
theorem cut_mid (done gs t : List Int) (p : Int) : cutV ((done ++ p :: (gs ++ t)).map V.int) (some (((done.length : Nat) : Int) + 1)) (some ((done.length + 1 + gs.length : Nat) : Int)) = gs.map V.int := by
  unfold cutV
  have hn : ((done ++ p :: (gs ++ t)).map V.int).length = done.length + 1 + gs.length + t.length := by
    rw [List.length_map, List.length_append, List.length_cons, List.length_append]
    omega
  have e1 : HT.sIx ((done ++ p :: (gs ++ t)).map V.int).length 0 (some (((done.length : Nat) : Int) + 1)) = done.length + 1 := by
    have z := HT.sIx_nat ((done ++ p :: (gs ++ t)).map V.int).length 0 (done.length + 1)
    rw [hn] at z ⊢
    exact z.trans (by omega)
  have e2 : HT.sIx ((done ++ p :: (gs ++ t)).map V.int).length ((done ++ p :: (gs ++ t)).map V.int).length (some ((done.length + 1 + gs.length : Nat) : Int)) = done.length + 1 + gs.length := by
    rw [HT.sIx_nat, hn]
    omega
  rw [e1, e2, List.map_append, List.map_cons, List.map_append]
  rw [show done.length + 1 + gs.length - (done.length + 1) = gs.length by omega]
  rw [List.drop_append, List.drop_eq_nil_of_le (by rw [List.length_map]; omega), List.nil_append, List.length_map, show done.length + 1 - done.length = 1 by omega, List.drop_succ_cons, List.drop_zero]
  exact List.take_left' (List.length_map _)
theorem told_cons (x : List Int) (xs : List (List Int)) : PyFlat.told (x :: xs) = ((x.length : Int) :: x) ++ PyFlat.told xs := by
  unfold PyFlat.told
  rw [List.flatMap_cons]
end Br
end
section
set_option Elab.async false
set_option linter.all false
set_option maxRecDepth 100000
set_option maxHeartbeats 8000000
namespace Br
open PySem PySem.Spec PyProof.Rows L2 LamX NdefX BrK
abbrev sAn : Stmt := top 49
/-- where the walk stands: what is told, what is done, what is left -/
structure AnsAt (K : PySem.W.Frag) (CV CS Pt lc t : Addr) (xs : List Int) (H : Hp) (vv : V) (s : Option Sr100.Street) (T done rest : List Int) (cs : List (List (List Int))) (f : Nat) : Prop where
  eq : xs = done ++ rest
  calls : PyFlat.calls PySr100.shape f rest = some cs
  bound : ∀ c ∈ cs, PyInside.call PySr100.bound c = true
  all : PySr100.answers xs = T ++ PyFlat.told (PyFlat.played Sr100Neutral.step s (cs.map PySr100.whole))
  short : (PySr100.answers xs).length ≤ 10000000
  tl : H t = some (.lst (T.map V.int))
  van : VanOk K CV CS H t lc (xs.map V.int) vv s
  tabs : Tabs (TbL Pt) H
def spAn (K : PySem.W.Frag) (CV CS Pt : Addr) : Sp := fun vs H Q _ => ∃ (lc : Addr) (xs : List Int), vs = [.ref lc] ∧ SqL K H lc (xs.map V.int) ∧ PySr100.answers_asked xs = true ∧ Tabs (TbL Pt) H ∧
  ∀ (H' : Hp) (t : Addr), H' t = some (.lst ((PySr100.answers xs).map V.int)) → Q (.ref t) H'
section
variable {P : Program} {w : World} {K : PySem.W.Frag} {mg : Str → Option Value} {base : Heap} {CV CS Pt : Addr}
theorem scAn : FnScope ["calls", "van", "told", "start", "end", "number", "given", "answer"] ["calls"] (defScope sAn) := ⟨rfl, rfl, rfl, by decide +kernel, rfl, by decide +kernel, by decide +kernel⟩
/-- one call more -/
theorem AnsAt.next {lc t : Addr} {H4 : Hp} {s s' : Option Sr100.Street} {T done gs r' : List Int} {p : Int} {call : Sr100.Call} {c : List (List Int)} {cs' : List (List (List Int))} {f' : Nat} {vv' : V} {ans : List Int}
    (hall : PySr100.answers (done ++ p :: (gs ++ r')) = T ++ PyFlat.told (PyFlat.played Sr100Neutral.step s ((c :: cs').map PySr100.whole))) (hsh : (PySr100.answers (done ++ p :: (gs ++ r'))).length ≤ 10000000)
    (hpc : Sr100Neutral.parseCall (PySr100.whole c) = some call) (hs' : s' = (Sr100.step s call).1) (hans : ans = (Sr100.step s call).2.code :: (Sr100.step s call).2.values)
    (hc : PyFlat.calls PySr100.shape f' r' = some cs') (hb : ∀ c ∈ cs', PyInside.call PySr100.bound c = true)
    (ht : H4 t = some (.lst (T.map V.int))) (hv : VanOk K CV CS H4 t lc ((done ++ p :: (gs ++ r')).map V.int) vv' s') (hT : Tabs (TbL Pt) H4) :
    AnsAt K CV CS Pt lc t (done ++ p :: (gs ++ r')) (upd (upd H4 t (.lst (T.map V.int ++ [.int (ans.length : Int)]))) t (.lst ((T.map V.int ++ [.int (ans.length : Int)]) ++ ans.map V.int))) vv' s' (T ++ ((ans.length : Int) :: ans)) (done ++ p :: gs) r' cs' f' ∧ T.length + 1 + ans.length ≤ 10000000 := by
  have e1 : PySr100.answers (done ++ p :: (gs ++ r')) = (T ++ ((ans.length : Int) :: ans)) ++ PyFlat.told (PyFlat.played Sr100Neutral.step s' (cs'.map PySr100.whole)) := by
    rw [hall, List.map_cons]
    show T ++ PyFlat.told ((Sr100Neutral.step s (PySr100.whole c)).2 :: PyFlat.played Sr100Neutral.step (Sr100Neutral.step s (PySr100.whole c)).1 (cs'.map PySr100.whole)) = _
    rw [told_cons, nstep hpc, ← hans, ← hs', List.append_assoc]
  refine ⟨⟨by simp, hc, hb, e1, hsh, ?_, ?_, ?_⟩, ?_⟩
  · rw [upd_same, List.map_append, List.map_cons, List.append_assoc]
    rfl
  · exact (hv.told ht).told upd_same
  · exact tabs_told (tabs_told hT ht) upd_same
  · rw [e1, List.length_append, List.length_append, List.length_cons] at hsh
    omega
theorem ok_an {f fE fT fI fC fQ : Addr} {fd fdE fdT fdI fdC fdQ : FuncData} (F : Fun K "answers" "answers" sAn f fd) (T0 : TxtV K mg CV CS) (N : TxtN K mg)
    (gE : mg "end_of_call" = some (.ref fE)) (kE : PySem.W.keepIn K (.ref fE) = true) (GE : FnOk P w K mg base CX0 1 fE fdE ["calls", "start"] (spEn K)) (bE : Binds K fdE ["calls", "start"] [])
    (gT : mg "is_time" = some (.ref fT)) (kT : PySem.W.keepIn K (.ref fT) = true) (GT : FnOk P w K mg base CX0 1 fT fdT ["value"] (spIs Sr100.isTime)) (bT : Binds K fdT ["value"] [])
    (gV : mg "Van" = some (.ref CV)) (M : Mk K CV fI) (GI : FnOk P w K mg base CX0 1 fI fdI ["self", "departure"] (spVaI CV)) (bI : Binds K fdI ["self", "departure"] [])
    (gC : mg "answer_of_change" = some (.ref fC)) (kC : PySem.W.keepIn K (.ref fC) = true) (GC : FnOk P w K mg base CX0 4 fC fdC ["van", "number", "given"] (spDis CV CS Pt 1 6)) (bC : Binds K fdC ["van", "number", "given"] [])
    (gQ : mg "answer_of_query" = some (.ref fQ)) (kQ : PySem.W.keepIn K (.ref fQ) = true) (GQ : FnOk P w K mg base CX0 9 fQ fdQ ["van", "number", "given"] (spDis CV CS Pt 7 16)) (bQ : Binds K fdQ ["van", "number", "given"] []) :
    FnOk P w K mg base CX0 10 f fd ["calls"] (spAn K CV CS Pt) := by
  refine F.ok scAn (fun vs H Q E h => ?_) (fun cdv A outer s H vs Q E hr h => ?_)
  · obtain ⟨_, _, rfl, _⟩ := h
    rfl
  · obtain ⟨lc, xs, rfl, hs, hask, hT, k⟩ := h
    have hr1 : Room 1 _ := hr.mono (by decide)
    have hr2 : Room 2 _ := hr.mono (by decide)
    have hr4 : Room 4 _ := hr.mono (by decide)
    refine ⟨_, pss_cons (ps_set (i := 1) scAn.nd rfl (.inl rfl) pe_non)
      (pss_cons (ps_set (i := 2) scAn.nd rfl (.inl rfl) (pe_lst pa_nil))
      (pss_cons (ps_set (i := 3) scAn.nd rfl (.inl rfl) pe_int)
      (pss_cons (ps_while PassesOwn.never (pt_cmpR op_lt (pv 3) (pe_callB call_len_seq (by rfl) T0.gL PySem.boot_len (pa_cons (pv 0) pa_nil)) (nomark _))
        (pss_cons (ps_set (i := 4) scAn.nd rfl (.inl rfl) (pe_call GE hr1 (by rfl) gE kE bE .nil pass0 (pa_cons (pv 0) (pa_cons (pv 3) pa_nil))))
        (pss_cons (ps_set (i := 5) scAn.nd rfl (.inl rfl) (pe_ix ix_list (pv 0) (pv 3) (fun _ _ => rfl)))
        (pss_cons (ps_set (i := 6) scAn.nd rfl (.inl rfl) (pe_slice sl_list (pv 0) (po_some (pe_op op_add (pv 3) pe_int)) (po_some (pv 4))))
        (pss_cons (ps_if (PW.pt (pw_and (pt_cmpR op_eq (pv 5) (pgi (by rfl) N.c0) (nomark _)) (pw_and1 (pt_val (pe_call GT hr1 (by rfl) gT kT bT .nil pass0 (pa_cons (pe_ix ix_list (pv 6) pe_int (fun _ _ => rfl)) pa_nil))))))
            (pss_cons (ps_set (i := 1) scAn.nd rfl (.inl rfl) (pe_make M GI hr2 (by rfl) gV bI .nil pass0 (pa_cons (pe_ix ix_list (pv 6) pe_int (fun _ _ => rfl)) pa_nil)))
            (pss_one (ps_set (i := 7) scAn.nd rfl (.inl rfl) (pe_lst (pa_cons pe_int pa_nil)))))
            (pss_one (ps_if (pt_cmpR op_eq (pv 5) (pgi (by rfl) N.c0) (nomark _)) (pss_one (ps_set (i := 7) scAn.nd rfl (.inl rfl) (pe_lst (pa_cons (pgi (by rfl) T0.e22) pa_nil))))
              (pss_one (ps_if (pt_cmpR op_isN (pv 1) pe_non (nomark _)) (pss_one (ps_set (i := 7) scAn.nd rfl (.inl rfl) (pe_lst (pa_cons (pgi (by rfl) T0.e11) pa_nil))))
                (pss_one (ps_if (pt_cmpR op_le (pv 5) (pgi (by rfl) N.c6) (nomark _)) (pss_one (ps_set (i := 7) scAn.nd rfl (.inl rfl) (pe_call GC hr4 (by rfl) gC kC bC .nil pass0 (pa_cons (pv 1) (pa_cons (pv 5) (pa_cons (pv 6) pa_nil))))))
                  (pss_one (ps_set (i := 7) scAn.nd rfl (.inl rfl) (pe_call GQ hr (by rfl) gQ kQ bQ .nil pass0 (pa_cons (pv 1) (pa_cons (pv 5) (pa_cons (pv 6) pa_nil)))))))))))))
        (pss_cons (ps_expr (pe_bm PySem.F.plainAttrs_list PySem.F.slot_list_append PySem.F.type_list_append mt_append (pv 2) (pa_cons (pe_callB call_len_seq (by rfl) T0.gL PySem.boot_len (pa_cons (pv 7) pa_nil)) pa_nil)))
        (pss_cons (ps_expr (pe_bm PySem.F.plainAttrs_list PySem.F.slot_list_extend PySem.F.type_list_extend mt_extend (pv 2) (pa_cons (pv 7) pa_nil)))
        (pss_one (ps_set (i := 3) scAn.nd rfl (.inl rfl) (pv 4))))))))))
      (pss_one (ps_ret (pv 2)))))), ?_⟩
    obtain ⟨raw, hraw, hal, hbd, hsh, _⟩ := asked_of hask
    refine ⟨by show 0 ≤ 16777216; decide, fun t nt => ?_⟩
    have st0 : Same H (upd H t (.lst [])) := same_new (Same.refl _) nt
    have A0 : AnsAt K CV CS Pt lc t xs (upd H t (.lst [])) .non none [] [] xs raw xs.length := ⟨rfl, hraw, fun c hc => List.all_eq_true.mp hbd c hc, hal, hsh, upd_same, ⟨rfl, .of hs nt st0⟩, hT.ext st0⟩
    generalize upd H t (.lst []) = Hs at A0
    refine ⟨fun m σ H' => ∃ (vv : V) (s' : Option Sr100.Street) (T done rest : List Int) (cs : List (List (List Int))) (f : Nat) (o4 o5 o6 o7 : Option V), σ = [some (.ref lc), some vv, some (.ref t), some (nv done.length), o4, o5, o6, o7] ∧ m = rest.length ∧ AnsAt K CV CS Pt lc t xs H' vv s' T done rest cs f,
      ⟨_, _, _, _, _, _, _, _, _, _, _, _, rfl, rfl, A0⟩, ?_⟩
    rintro m σ H1 ⟨vv, s1, T, done, rest, cs, f, o4, o5, o6, o7, rfl, rfl, AT⟩
    refine ⟨_, rfl, _, rfl, lc, _, rfl, .inl AT.van.sq, _, _, rfl, rfl, _, rfl, ?_⟩
    cases rest with
    | nil =>
      have e := AT.eq
      rw [List.append_nil] at e
      refine ite2 (fun z => ?_) fun _ => ?_
      · have z' : ((done.length : Nat) : Int) < ((xs.map V.int).length : Int) := of_decide_eq_true z
        rw [List.length_map, e] at z'
        exact absurd z' (Int.lt_irrefl _)
      · refine ⟨_, rfl, k _ t ?_⟩
        have e2 := AT.all
        rw [flat_nil AT.calls] at e2
        rw [e2]
        show H1 t = some (.lst ((T ++ []).map V.int))
        rw [List.append_nil]
        exact AT.tl
    | cons p r =>
      obtain ⟨c, r', cs', f', rfl, hcs, hF⟩ := flat_cons AT.calls
      obtain ⟨gs, call, hA, rfl, hpc⟩ := ask_of hF (AT.bound c (List.mem_cons_self ..))
      have hxs := AT.eq
      subst hxs
      have hb' : ∀ c ∈ cs', PyInside.call PySr100.bound c = true := fun c hc => AT.bound c (List.mem_cons_of_mem _ hc)
      refine ite2 (fun _ => ?_) fun z => ?_
      · refine ⟨fun σ' H' => ∃ m', m' < (p :: (gs ++ r')).length ∧ ∃ (vv : V) (s' : Option Sr100.Street) (T done' rest : List Int) (cs : List (List (List Int))) (f : Nat) (o4 o5 o6 o7 : Option V), σ' = [some (.ref lc), some vv, some (.ref t), some (nv done'.length), o4, o5, o6, o7] ∧ m' = rest.length ∧ AnsAt K CV CS Pt lc t (done ++ p :: (gs ++ r')) H' vv s' T done' rest cs f, fun σ' H' z => z, ?_⟩
        have fin : ∀ (H4 : Hp) (vv' : V) (s' : Option Sr100.Street) (ans : List Int), s' = (Sr100.step s1 call).1 → ans = (Sr100.step s1 call).2.code :: (Sr100.step s1 call).2.values → H4 t = some (.lst (T.map V.int)) → VanOk K CV CS H4 t lc ((done ++ p :: (gs ++ r')).map V.int) vv' s' → Tabs (TbL Pt) H4 →
            T.length + 1 + ans.length ≤ 10000000 ∧ ∀ o4 o5 o6 o7 : Option V, ∃ m', m' < (p :: (gs ++ r')).length ∧ ∃ (vv : V) (s' : Option Sr100.Street) (T' done' rest : List Int) (cs : List (List (List Int))) (f : Nat) (q4 q5 q6 q7 : Option V), [some (V.ref lc), some vv', some (V.ref t), some (nv (done.length + 1 + gs.length)), o4, o5, o6, o7] = [some (V.ref lc), some vv, some (V.ref t), some (nv done'.length), q4, q5, q6, q7] ∧ m' = rest.length ∧
              AnsAt K CV CS Pt lc t (done ++ p :: (gs ++ r')) (upd (upd H4 t (.lst (T.map V.int ++ [.int ((ans.map V.int).length : Int)]))) t (.lst ((T.map V.int ++ [.int ((ans.map V.int).length : Int)]) ++ ans.map V.int))) vv s' T' done' rest cs f := fun H4 vv' s' ans h1 h2 h3 h4 h5 => by
          obtain ⟨X, hl⟩ := AnsAt.next AT.all AT.short hpc h1 h2 hcs hb' h3 h4 h5
          rw [List.length_map]
          refine ⟨hl, fun o4 o5 o6 o7 => ⟨r'.length, ?_, vv', s', _, done ++ p :: gs, r', cs', f', o4, o5, o6, o7, ?_, rfl, X⟩⟩
          · rw [List.length_cons, List.length_append]
            omega
          · rw [List.length_append, List.length_cons, Nat.add_assoc, Nat.add_comm 1]
        refine ⟨_, rfl, _, rfl, lc, done, gs, r', p, call, rfl, AT.van.sq, hA, ?_⟩
        refine ⟨_, rfl, _, rfl, lc, _, _, .int p, rfl, rfl, AT.van.sq, at_done (i := 0) rfl, ?_⟩
        refine ⟨_, rfl, _, rfl, _, _, rfl, rfl, _, rfl, _, rfl, _, rfl, lc, _, rfl, AT.van.sq, fun g hg => ?_⟩
        rw [cut_mid]
        have s2 : Same H1 (upd H1 g (.lst (gs.map V.int))) := same_new (Same.refl _) hg
        have g2 : upd H1 g (.lst (gs.map V.int)) g = some (.lst (gs.map V.int)) := upd_same
        have t2 := s2 _ _ AT.tl
        have v2 := AT.van.same s2
        have T2 := AT.tabs.ext s2
        generalize upd H1 g (.lst (gs.map V.int)) = H2 at s2 g2 t2 v2 T2
        by_cases hp : p = 0
        · obtain ⟨d, rfl, rfl⟩ := ask_zero hA hp
          subst hp
          refine ⟨_, rfl, rfl, _, rfl, ite2 (fun _ => ?_) (fun z => absurd (decide_eq_true rfl) z)⟩
          refine ⟨_, rfl, g, _, _, _, rfl, rfl, SqL.of g2, atI_nat (j := 0) rfl, d, rfl, _, rfl, ?_⟩
          cases hX : Sr100.isTime d with
          | true =>
            refine iteT ⟨_, rfl, g, _, _, _, rfl, rfl, SqL.of g2, atI_nat (j := 0) rfl, fun x dx nx ndx nex => ⟨x, dx, d.toNat, (by unfold nv; rw [time_nat hX]; rfl), upd_same, fun H3 l h3 h4 h5 h6 => ⟨rfl, ?_⟩⟩⟩
            have s3 : Same H2 H3 := fun b o e => by
              refine h6 b o (ne_of_none e nx) ?_
              rw [upd_ne (ne_of_none e nx), upd_ne (ne_of_none e ndx)]
              exact e
            have nl : H2 l = none := by
              have lx : l ≠ x := fun z => by rw [z, upd_same] at h5; cases h5
              rw [upd_ne lx] at h5
              by_cases ld : l = dx
              · rw [ld]; exact ndx
              · rw [upd_ne ld] at h5; exact h5
            have lt : l ≠ t := fun z => by rw [z, t2] at nl; cases nl
            have v3 : VanOk K CV CS H3 t lc ((done ++ 0 :: ([d] ++ r')).map V.int) (.ref x) (some ⟨[], d.toNat⟩) := by
              refine ⟨x, l, [], rfl, ⟨⟨dx, h3⟩, ⟨h4, rfl, List.nodup_nil, fun j a s h => nomatch h⟩, Nat.zero_le _⟩, lt, ?_⟩
              cases s1 with
              | none => exact v2.2.new nl s3
              | some st => obtain ⟨_, _, _, _, _, _, q⟩ := v2; exact q.new nl s3
            refine ⟨by show 1 ≤ 16777216; decide, fun a na => ?_⟩
            have s4 : Same H3 (upd H3 a (.lst [.int 0])) := same_new (Same.refl _) na
            have ta : t ≠ a := ne_of_none (s3 _ _ t2) na
            obtain ⟨hl, hfin⟩ := fin (upd H3 a (.lst [.int 0])) (.ref x) (some ⟨[], d.toNat⟩) [0] (by rw [step_make hX]) (by rw [step_make hX]) (s4 _ _ (s3 _ _ t2)) (v3.same s4) (T2.ext (s3.trans s4))
            have ha4 : upd H3 a (.lst [.int 0]) a = some (.lst ([0].map V.int)) := upd_same
            have ht4 := s4 _ _ (s3 _ _ t2)
            refine ⟨_, rfl, .inl ⟨rfl, _, SqL.of ht4⟩, _, rfl, a, _, rfl, .inl (SqL.of ha4), t, _, _, rfl, rfl, ht4, ?_, ?_⟩
            · rw [List.length_map]
              show _ < 16777216
              omega
            · refine ⟨_, rfl, .inl ⟨rfl, _, SqL.of upd_same⟩, _, rfl, t, a, _, _, rfl, rfl, upd_same, by rw [upd_ne (Ne.symm ta)]; exact ha4, ?_, _, rfl, hfin _ _ _ _⟩
              rw [List.length_append, List.length_map, List.length_map]
              show _ + 1 + _ ≤ 16777216
              omega
          | false =>
            refine iteF ⟨_, rfl, rfl, _, rfl, ite2 (fun _ => ?_) (fun z => absurd (decide_eq_true rfl) z)⟩
            refine ⟨by show 1 ≤ 16777216; decide, fun a na => ?_⟩
            have s4 : Same H2 (upd H2 a (.lst [.int (-22)])) := same_new (Same.refl _) na
            have ta : t ≠ a := ne_of_none t2 na
            obtain ⟨hl, hfin⟩ := fin (upd H2 a (.lst [.int (-22)])) vv s1 [-22] (by rw [step_bad hX]) (by rw [step_bad hX]) (s4 _ _ t2) (v2.same s4) (T2.ext s4)
            have ha4 : upd H2 a (.lst [.int (-22)]) a = some (.lst ([-22].map V.int)) := upd_same
            have ht4 := s4 _ _ t2
            refine ⟨_, rfl, .inl ⟨rfl, _, SqL.of ht4⟩, _, rfl, a, _, rfl, .inl (SqL.of ha4), t, _, _, rfl, rfl, ht4, ?_, ?_⟩
            · rw [List.length_map]
              show _ < 16777216
              omega
            · refine ⟨_, rfl, .inl ⟨rfl, _, SqL.of upd_same⟩, _, rfl, t, a, _, _, rfl, rfl, upd_same, by rw [upd_ne (Ne.symm ta)]; exact ha4, ?_, _, rfl, hfin _ _ _ _⟩
              rw [List.length_append, List.length_map, List.length_map]
              show _ + 1 + _ ≤ 16777216
              omega
        · refine ⟨_, rfl, rfl, _, rfl, ite2 (fun z => absurd (V.int.inj (of_decide_eq_true z)) hp) (fun _ => ?_)⟩
          refine ⟨_, rfl, rfl, _, rfl, ite2 (fun z => absurd (V.int.inj (of_decide_eq_true z)) hp) (fun _ => ?_)⟩
          cases s1 with
          | none =>
            obtain ⟨rfl, hfx⟩ := id v2
            refine ⟨_, rfl, rfl, _, rfl, ite2 (fun _ => ?_) fun z => absurd (decide_eq_true rfl) z⟩
            refine ⟨by show 1 ≤ 16777216; decide, fun a na => ?_⟩
            have s4 : Same H2 (upd H2 a (.lst [.int (-11)])) := same_new (Same.refl _) na
            have ta : t ≠ a := ne_of_none t2 na
            obtain ⟨hl, hfin⟩ := fin (upd H2 a (.lst [.int (-11)])) .non none [-11] (by rw [step_none hA hp]) (by rw [step_none hA hp]) (s4 _ _ t2) (v2.same s4) (T2.ext s4)
            have ha4 : upd H2 a (.lst [.int (-11)]) a = some (.lst ([-11].map V.int)) := upd_same
            have ht4 := s4 _ _ t2
            refine ⟨_, rfl, .inl ⟨rfl, _, SqL.of ht4⟩, _, rfl, a, _, rfl, .inl (SqL.of ha4), t, _, _, rfl, rfl, ht4, ?_, ?_⟩
            · rw [List.length_map]
              show _ < 16777216
              omega
            · refine ⟨_, rfl, .inl ⟨rfl, _, SqL.of upd_same⟩, _, rfl, t, a, _, _, rfl, rfl, upd_same, by rw [upd_ne (Ne.symm ta)]; exact ha4, ?_, _, rfl, hfin _ _ _ _⟩
              rw [List.length_append, List.length_map, List.length_map]
              show _ + 1 + _ ≤ 16777216
              omega
          | some st =>
            obtain ⟨v, l, as, rfl, Av, lt, hfx⟩ := v2
            obtain ⟨e1, e2⟩ := step_some hA hp st
            refine ⟨_, rfl, rfl, _, rfl, ite2 (fun z => nomatch of_decide_eq_true z) fun _ => ?_⟩
            have got : ∀ (H4 : Hp) (a : Addr) (as' : List Addr), NewL H2 a → Keeps l H2 H4 → Tabs (TbL Pt) H4 → H4 a = some (.lst ((out st call).2.map V.int)) → VanAt CV CS H4 v l as' (out st call).1 →
                H4 t = some (.lst (T.map V.int)) ∧ t ≠ a ∧ T.length + 1 + (out st call).2.length ≤ 10000000 ∧ ∀ o4 o5 o6 o7 : Option V, ∃ m', m' < (p :: (gs ++ r')).length ∧ ∃ (vv : V) (s' : Option Sr100.Street) (T' done' rest : List Int) (cs : List (List (List Int))) (f : Nat) (q4 q5 q6 q7 : Option V), [some (V.ref lc), some (V.ref v), some (V.ref t), some (nv (done.length + 1 + gs.length)), o4, o5, o6, o7] = [some (V.ref lc), some vv, some (V.ref t), some (nv done'.length), q4, q5, q6, q7] ∧ m' = rest.length ∧
                  AnsAt K CV CS Pt lc t (done ++ p :: (gs ++ r')) (upd (upd H4 t (.lst (T.map V.int ++ [.int (((out st call).2.map V.int).length : Int)]))) t (.lst ((T.map V.int ++ [.int (((out st call).2.map V.int).length : Int)]) ++ (out st call).2.map V.int))) vv s' T' done' rest cs f := fun H4 a as' n4 k4 T4 h4 A4 => by
              have ht4 : H4 t = some (.lst (T.map V.int)) := k4 t _ (Ne.symm lt) (fun ps z => by cases z) (fun C dx fs z => by cases z) t2
              have ta : t ≠ a := fun z => n4 _ (by rw [← z]; exact t2)
              obtain ⟨hl, hfin⟩ := fin H4 (.ref v) (some (out st call).1) (out st call).2 e1.symm e2.symm ht4 ⟨v, l, as', rfl, A4, lt, hfx.step k4.two⟩ T4
              exact ⟨ht4, ta, hl, hfin⟩
            have hn := ask_num hA
            refine ⟨_, rfl, _, _, rfl, rfl, _, rfl, ite2 (fun z => ?_) (fun z => ?_)⟩
            · have hp6 : p ≤ 6 := of_decide_eq_true z
              refine ⟨_, rfl, _, rfl, _, rfl, v, l, g, as, st, p, gs, call, rfl, Av, T2, g2, hA, by omega, hp6, fun H4 a as' n4 k4 T4 h4 A4 => ?_⟩
              obtain ⟨ht4, ta, hl, hfin⟩ := got H4 a as' n4 k4 T4 h4 A4
              refine ⟨_, rfl, .inl ⟨rfl, _, SqL.of ht4⟩, _, rfl, a, _, rfl, .inl (SqL.of h4), t, _, _, rfl, rfl, ht4, ?_, ?_⟩
              · rw [List.length_map]
                show _ < 16777216
                omega
              · refine ⟨_, rfl, .inl ⟨rfl, _, SqL.of upd_same⟩, _, rfl, t, a, _, _, rfl, rfl, upd_same, by rw [upd_ne (Ne.symm ta)]; exact h4, ?_, _, rfl, hfin _ _ _ _⟩
                rw [List.length_append, List.length_map, List.length_map]
                show _ + 1 + _ ≤ 16777216
                omega
            · have hp7 : ¬ p ≤ 6 := fun q => z (decide_eq_true q)
              refine ⟨_, rfl, _, rfl, _, rfl, v, l, g, as, st, p, gs, call, rfl, Av, T2, g2, hA, by omega, by omega, fun H4 a as' n4 k4 T4 h4 A4 => ?_⟩
              obtain ⟨ht4, ta, hl, hfin⟩ := got H4 a as' n4 k4 T4 h4 A4
              refine ⟨_, rfl, .inl ⟨rfl, _, SqL.of ht4⟩, _, rfl, a, _, rfl, .inl (SqL.of h4), t, _, _, rfl, rfl, ht4, ?_, ?_⟩
              · rw [List.length_map]
                show _ < 16777216
                omega
              · refine ⟨_, rfl, .inl ⟨rfl, _, SqL.of upd_same⟩, _, rfl, t, a, _, _, rfl, rfl, upd_same, by rw [upd_ne (Ne.symm ta)]; exact h4, ?_, _, rfl, hfin _ _ _ _⟩
                rw [List.length_append, List.length_map, List.length_map]
                show _ + 1 + _ ≤ 16777216
                omega
      · exfalso
        refine z (decide_eq_true ?_)
        rw [List.length_map, List.length_append, List.length_cons]
        show ((done.length : Nat) : Int) < _
        omega
end
end Br
end
section
set_option Elab.async false
set_option linter.all false
set_option maxRecDepth 100000
set_option maxHeartbeats 8000000
namespace Br
open PySem PySem.Spec PyProof.Rows L2 LamX NdefX BrK
theorem all_mk {P : Program} {w : World} {q : Program} {loose : List Str} {mean : ExcName → Option Value} {K : PySem.W.Frag} {h : Heap} {mg mb : Str → Option Value} {fa : Addr} (X : K.In h) (T : Top q loose mean mg mb h) (hfa : mg "answers" = some (.ref fa))
    {c Pt CS CV tW tR : Addr} {d : DefRec} {odc odW odR : Option Addr} {slc slW slR : Array (Option Value)} {occ : Value} {vsc itW itR : Array Value} {nW nR : Nat}
    {fBy : Addr} {odBy anBy : Option Addr} {slBy : Array (Option Value)} {ocBy kVBy dcBy pmBy ctBy : Value}
    {fSw : Addr} {odSw anSw : Option Addr} {slSw : Array (Option Value)} {ocSw kVSw dcSw pmSw cdSw ctSw : Value}
    {fTi : Addr} {odTi anTi : Option Addr} {slTi : Array (Option Value)} {ocTi kVTi dcTi pmTi cdTi ctTi : Value}
    {fOn : Addr} {odOn anOn : Option Addr} {slOn : Array (Option Value)} {ocOn kVOn dcOn pmOn cdOn ctOn : Value}
    {fFi : Addr} {odFi anFi : Option Addr} {slFi : Array (Option Value)} {ocFi kVFi dcFi pmFi cdFi ctFi : Value}
    {fBe : Addr} {odBe anBe : Option Addr} {slBe : Array (Option Value)} {ocBe kVBe dcBe pmBe cdBe ctBe : Value}
    {fSp : Addr} {odSp anSp : Option Addr} {slSp : Array (Option Value)} {ocSp kVSp dcSp pmSp cdSp ctSp : Value}
    {fLt : Addr} {odLt anLt : Option Addr} {slLt : Array (Option Value)} {ocLt kVLt dcLt pmLt cdLt ctLt : Value}
    {fLo : Addr} {odLo anLo : Option Addr} {slLo : Array (Option Value)} {ocLo kVLo dcLo pmLo cdLo ctLo : Value}
    {fNu : Addr} {odNu anNu : Option Addr} {slNu : Array (Option Value)} {ocNu kVNu dcNu pmNu cdNu ctNu : Value}
    {fMe : Addr} {odMe anMe : Option Addr} {slMe : Array (Option Value)} {ocMe kVMe dcMe pmMe cdMe ctMe : Value}
    {fRi : Addr} {odRi anRi : Option Addr} {slRi : Array (Option Value)} {ocRi kVRi dcRi pmRi cdRi ctRi : Value}
    {fIsT : Addr} {odIsT anIsT : Option Addr} {slIsT : Array (Option Value)} {ocIsT kVIsT dcIsT pmIsT cdIsT ctIsT : Value}
    {fIsP : Addr} {odIsP anIsP : Option Addr} {slIsP : Array (Option Value)} {ocIsP kVIsP dcIsP pmIsP cdIsP ctIsP : Value}
    {fIsL : Addr} {odIsL anIsL : Option Addr} {slIsL : Array (Option Value)} {ocIsL kVIsL dcIsL pmIsL cdIsL ctIsL : Value}
    {fEn : Addr} {odEn anEn : Option Addr} {slEn : Array (Option Value)} {ocEn kVEn dcEn pmEn cdEn ctEn : Value}
    {fCha : Addr} {odCha anCha : Option Addr} {slCha : Array (Option Value)} {ocCha kVCha dcCha pmCha cdCha ctCha : Value}
    {fQue : Addr} {odQue anQue : Option Addr} {slQue : Array (Option Value)} {ocQue kVQue dcQue pmQue cdQue ctQue : Value}
    {fAn : Addr} {odAn anAn : Option Addr} {slAn : Array (Option Value)} {ocAn kVAn dcAn pmAn cdAn ctAn : Value}
    {fShI : Addr} {odShI anShI : Option Addr} {slShI : Array (Option Value)} {ocShI kVShI dcShI pmShI cdShI ctShI : Value}
    {fVaI : Addr} {odVaI anVaI : Option Addr} {slVaI : Array (Option Value)} {ocVaI kVVaI dcVaI pmVaI cdVaI ctVaI : Value}
    {fHas : Addr} {odHas anHas : Option Addr} {slHas : Array (Option Value)} {ocHas kVHas dcHas pmHas cdHas ctHas : Value}
    {fAdd : Addr} {odAdd anAdd : Option Addr} {slAdd : Array (Option Value)} {ocAdd kVAdd dcAdd pmAdd cdAdd ctAdd : Value}
    {fRem : Addr} {odRem anRem : Option Addr} {slRem : Array (Option Value)} {ocRem kVRem dcRem pmRem cdRem ctRem : Value}
    {fPos : Addr} {odPos anPos : Option Addr} {slPos : Array (Option Value)} {ocPos kVPos dcPos pmPos cdPos ctPos : Value}
    {fDea : Addr} {odDea anDea : Option Addr} {slDea : Array (Option Value)} {ocDea kVDea dcDea pmDea cdDea ctDea : Value}
    {fLoa : Addr} {odLoa anLoa : Option Addr} {slLoa : Array (Option Value)} {ocLoa kVLoa dcLoa pmLoa cdLoa ctLoa : Value}
    {fDep : Addr} {odDep anDep : Option Addr} {slDep : Array (Option Value)} {ocDep kVDep dcDep pmDep cdDep ctDep : Value}
    {fAls : Addr} {odAls anAls : Option Addr} {slAls : Array (Option Value)} {ocAls kVAls dcAls pmAls cdAls ctAls : Value}
    {fAll : Addr} {odAll anAll : Option Addr} {slAll : Array (Option Value)} {ocAll kVAll dcAll pmAll cdAll ctAll : Value}
    {fEt : Addr} {odEt anEt : Option Addr} {slEt : Array (Option Value)} {ocEt kVEt dcEt pmEt cdEt ctEt : Value}
    {fEf : Addr} {odEf anEf : Option Addr} {slEf : Array (Option Value)} {ocEf kVEf dcEf pmEf cdEf ctEf : Value}
    {fBr : Addr} {odBr anBr : Option Addr} {slBr : Array (Option Value)} {ocBr kVBr dcBr pmBr cdBr ctBr : Value}
    {fIr : Addr} {odIr anIr : Option Addr} {slIr : Array (Option Value)} {ocIr kVIr dcIr pmIr cdIr ctIr : Value}
    {fAt : Addr} {odAt anAt : Option Addr} {slAt : Array (Option Value)} {ocAt kVAt dcAt pmAt cdAt ctAt : Value}
    {fCh : Addr} {odCh anCh : Option Addr} {slCh : Array (Option Value)} {ocCh kVCh dcCh pmCh cdCh ctCh : Value}
    {fMl : Addr} {odMl anMl : Option Addr} {slMl : Array (Option Value)} {ocMl kVMl dcMl pmMl cdMl ctMl : Value}
    {fEo : Addr} {odEo anEo : Option Addr} {slEo : Array (Option Value)} {ocEo kVEo dcEo pmEo cdEo ctEo : Value}
    {fLd : Addr} {odLd anLd : Option Addr} {slLd : Array (Option Value)} {ocLd kVLd dcLd pmLd cdLd ctLd : Value}
    {fRt : Addr} {odRt anRt : Option Addr} {slRt : Array (Option Value)} {ocRt kVRt dcRt pmRt cdRt ctRt : Value}
    {fEw : Addr} {odEw anEw : Option Addr} {slEw : Array (Option Value)} {ocEw kVEw dcEw pmEw cdEw ctEw : Value}
    {fDe : Addr} {odDe anDe : Option Addr} {slDe : Array (Option Value)} {ocDe kVDe dcDe pmDe cdDe ctDe : Value}
    {t0 : Tok}
    {t1 : Tok}
    {t2 : Tok}
    {t3 : Tok}
    {t4 : Tok}
    {t5 : Tok}
    {t6 : Tok}
    {t7 : Tok}
    {t8 : Tok}
    {t9 : Tok}
    {t10 : Tok}
    {t11 : Tok}
    {t12 : Tok}
    {t13 : Tok}
    {t14 : Tok}
    {t15 : Tok}
    {t16 : Tok}
    {t17 : Tok}
    {t18 : Tok}
    {t19 : Tok}
    {t20 : Tok}
    {t21 : Tok}
    {t22 : Tok}
    {t23 : Tok}
    {t24 : Tok}
    (aCS : PySem.W.nsIn K mainGlobals "Shop" = some (some (.ref CS)))
    (aCV : PySem.W.nsIn K mainGlobals "Van" = some (some (.ref CV)))
    (aBy : PySem.W.nsIn K mainGlobals "by_distance" = some (some (.ref fBy)))
    (lBy : K.lookup fBy = some ⟨ocBy, odBy, .func (PySem.W.fnOf "by_distance" "by_distance" (defArgs sBy) (defBody sBy) (defScope sBy) .none kVBy dcBy pmBy anBy (.ref c) ctBy), slBy⟩)
    (cBy : PySem.W.codeIn K (.ref c) "by_distance" = true)
    (kBy : PySem.W.keepIn K (.ref fBy) = true)
    (lC : K.lookup c = some ⟨occ, odc, .fields vsc, slc⟩)
    (vC : vsc[11]? = some (.ref Pt))
    (hC : PySem.W.codeHdIn K c Pt = true)
    (nT : K.lookup Pt = none)
    (tI : PySem.W.tabIn K "by_distance" = some (c, Pt))
    (rD : (recsOf q).find? (fun e => e.name == ("by_distance" : Str)) = some d)
    (aSw : PySem.W.nsIn K mainGlobals "sweeping_routes" = some (some (.ref fSw)))
    (lSw : K.lookup fSw = some ⟨ocSw, odSw, .func (PySem.W.fnOf "sweeping_routes" "sweeping_routes" (defArgs sSw) (defBody sSw) (defScope sSw) .none kVSw dcSw pmSw anSw cdSw ctSw), slSw⟩)
    (cSw : PySem.W.codeIn K cdSw "sweeping_routes" = true)
    (kSw : PySem.W.keepIn K (.ref fSw) = true)
    (aTi : PySem.W.nsIn K mainGlobals "times_along" = some (some (.ref fTi)))
    (lTi : K.lookup fTi = some ⟨ocTi, odTi, .func (PySem.W.fnOf "times_along" "times_along" (defArgs sTi) (defBody sTi) (defScope sTi) .none kVTi dcTi pmTi anTi cdTi ctTi), slTi⟩)
    (cTi : PySem.W.codeIn K cdTi "times_along" = true)
    (kTi : PySem.W.keepIn K (.ref fTi) = true)
    (aOn : PySem.W.nsIn K mainGlobals "is_on_time" = some (some (.ref fOn)))
    (lOn : K.lookup fOn = some ⟨ocOn, odOn, .func (PySem.W.fnOf "is_on_time" "is_on_time" (defArgs sOn) (defBody sOn) (defScope sOn) .none kVOn dcOn pmOn anOn cdOn ctOn), slOn⟩)
    (cOn : PySem.W.codeIn K cdOn "is_on_time" = true)
    (kOn : PySem.W.keepIn K (.ref fOn) = true)
    (aFi : PySem.W.nsIn K mainGlobals "finish_of" = some (some (.ref fFi)))
    (lFi : K.lookup fFi = some ⟨ocFi, odFi, .func (PySem.W.fnOf "finish_of" "finish_of" (defArgs sFi) (defBody sFi) (defScope sFi) .none kVFi dcFi pmFi anFi cdFi ctFi), slFi⟩)
    (cFi : PySem.W.codeIn K cdFi "finish_of" = true)
    (kFi : PySem.W.keepIn K (.ref fFi) = true)
    (aBe : PySem.W.nsIn K mainGlobals "best_route_to" = some (some (.ref fBe)))
    (lBe : K.lookup fBe = some ⟨ocBe, odBe, .func (PySem.W.fnOf "best_route_to" "best_route_to" (defArgs sBe) (defBody sBe) (defScope sBe) .none kVBe dcBe pmBe anBe cdBe ctBe), slBe⟩)
    (cBe : PySem.W.codeIn K cdBe "best_route_to" = true)
    (kBe : PySem.W.keepIn K (.ref fBe) = true)
    (aSp : PySem.W.nsIn K mainGlobals "time_to_spare" = some (some (.ref fSp)))
    (lSp : K.lookup fSp = some ⟨ocSp, odSp, .func (PySem.W.fnOf "time_to_spare" "time_to_spare" (defArgs sSp) (defBody sSp) (defScope sSp) .none kVSp dcSp pmSp anSp cdSp ctSp), slSp⟩)
    (cSp : PySem.W.codeIn K cdSp "time_to_spare" = true)
    (kSp : PySem.W.keepIn K (.ref fSp) = true)
    (aLt : PySem.W.nsIn K mainGlobals "latest_departure_to" = some (some (.ref fLt)))
    (lLt : K.lookup fLt = some ⟨ocLt, odLt, .func (PySem.W.fnOf "latest_departure_to" "latest_departure_to" (defArgs sLt) (defBody sLt) (defScope sLt) .none kVLt dcLt pmLt anLt cdLt ctLt), slLt⟩)
    (cLt : PySem.W.codeIn K cdLt "latest_departure_to" = true)
    (kLt : PySem.W.keepIn K (.ref fLt) = true)
    (aLo : PySem.W.nsIn K mainGlobals "loaves_of" = some (some (.ref fLo)))
    (lLo : K.lookup fLo = some ⟨ocLo, odLo, .func (PySem.W.fnOf "loaves_of" "loaves_of" (defArgs sLo) (defBody sLo) (defScope sLo) .none kVLo dcLo pmLo anLo cdLo ctLo), slLo⟩)
    (cLo : PySem.W.codeIn K cdLo "loaves_of" = true)
    (kLo : PySem.W.keepIn K (.ref fLo) = true)
    (aNu : PySem.W.nsIn K mainGlobals "number_of_sets" = some (some (.ref fNu)))
    (lNu : K.lookup fNu = some ⟨ocNu, odNu, .func (PySem.W.fnOf "number_of_sets" "number_of_sets" (defArgs sNu) (defBody sNu) (defScope sNu) .none kVNu dcNu pmNu anNu cdNu ctNu), slNu⟩)
    (cNu : PySem.W.codeIn K cdNu "number_of_sets" = true)
    (kNu : PySem.W.keepIn K (.ref fNu) = true)
    (aMe : PySem.W.nsIn K mainGlobals "members_of" = some (some (.ref fMe)))
    (lMe : K.lookup fMe = some ⟨ocMe, odMe, .func (PySem.W.fnOf "members_of" "members_of" (defArgs sMe) (defBody sMe) (defScope sMe) .none kVMe dcMe pmMe anMe cdMe ctMe), slMe⟩)
    (cMe : PySem.W.codeIn K cdMe "members_of" = true)
    (kMe : PySem.W.keepIn K (.ref fMe) = true)
    (aRi : PySem.W.nsIn K mainGlobals "richest_route" = some (some (.ref fRi)))
    (lRi : K.lookup fRi = some ⟨ocRi, odRi, .func (PySem.W.fnOf "richest_route" "richest_route" (defArgs sRi) (defBody sRi) (defScope sRi) .none kVRi dcRi pmRi anRi cdRi ctRi), slRi⟩)
    (cRi : PySem.W.codeIn K cdRi "richest_route" = true)
    (kRi : PySem.W.keepIn K (.ref fRi) = true)
    (aIsT : PySem.W.nsIn K mainGlobals "is_time" = some (some (.ref fIsT)))
    (lIsT : K.lookup fIsT = some ⟨ocIsT, odIsT, .func (PySem.W.fnOf "is_time" "is_time" (defArgs sIsT) (defBody sIsT) (defScope sIsT) .none kVIsT dcIsT pmIsT anIsT cdIsT ctIsT), slIsT⟩)
    (cIsT : PySem.W.codeIn K cdIsT "is_time" = true)
    (kIsT : PySem.W.keepIn K (.ref fIsT) = true)
    (aIsP : PySem.W.nsIn K mainGlobals "is_position" = some (some (.ref fIsP)))
    (lIsP : K.lookup fIsP = some ⟨ocIsP, odIsP, .func (PySem.W.fnOf "is_position" "is_position" (defArgs sIsP) (defBody sIsP) (defScope sIsP) .none kVIsP dcIsP pmIsP anIsP cdIsP ctIsP), slIsP⟩)
    (cIsP : PySem.W.codeIn K cdIsP "is_position" = true)
    (kIsP : PySem.W.keepIn K (.ref fIsP) = true)
    (aIsL : PySem.W.nsIn K mainGlobals "is_loaves" = some (some (.ref fIsL)))
    (lIsL : K.lookup fIsL = some ⟨ocIsL, odIsL, .func (PySem.W.fnOf "is_loaves" "is_loaves" (defArgs sIsL) (defBody sIsL) (defScope sIsL) .none kVIsL dcIsL pmIsL anIsL cdIsL ctIsL), slIsL⟩)
    (cIsL : PySem.W.codeIn K cdIsL "is_loaves" = true)
    (kIsL : PySem.W.keepIn K (.ref fIsL) = true)
    (aEn : PySem.W.nsIn K mainGlobals "end_of_call" = some (some (.ref fEn)))
    (lEn : K.lookup fEn = some ⟨ocEn, odEn, .func (PySem.W.fnOf "end_of_call" "end_of_call" (defArgs sEn) (defBody sEn) (defScope sEn) .none kVEn dcEn pmEn anEn cdEn ctEn), slEn⟩)
    (cEn : PySem.W.codeIn K cdEn "end_of_call" = true)
    (kEn : PySem.W.keepIn K (.ref fEn) = true)
    (aCha : PySem.W.nsIn K mainGlobals "answer_of_change" = some (some (.ref fCha)))
    (lCha : K.lookup fCha = some ⟨ocCha, odCha, .func (PySem.W.fnOf "answer_of_change" "answer_of_change" (defArgs sCha) (defBody sCha) (defScope sCha) .none kVCha dcCha pmCha anCha cdCha ctCha), slCha⟩)
    (cCha : PySem.W.codeIn K cdCha "answer_of_change" = true)
    (kCha : PySem.W.keepIn K (.ref fCha) = true)
    (aQue : PySem.W.nsIn K mainGlobals "answer_of_query" = some (some (.ref fQue)))
    (lQue : K.lookup fQue = some ⟨ocQue, odQue, .func (PySem.W.fnOf "answer_of_query" "answer_of_query" (defArgs sQue) (defBody sQue) (defScope sQue) .none kVQue dcQue pmQue anQue cdQue ctQue), slQue⟩)
    (cQue : PySem.W.codeIn K cdQue "answer_of_query" = true)
    (kQue : PySem.W.keepIn K (.ref fQue) = true)
    (aAn : PySem.W.nsIn K mainGlobals "answers" = some (some (.ref fAn)))
    (lAn : K.lookup fAn = some ⟨ocAn, odAn, .func (PySem.W.fnOf "answers" "answers" (defArgs sAn) (defBody sAn) (defScope sAn) .none kVAn dcAn pmAn anAn cdAn ctAn), slAn⟩)
    (cAn : PySem.W.codeIn K cdAn "answers" = true)
    (kAn : PySem.W.keepIn K (.ref fAn) = true)
    (pgCS : PySem.W.plainGet K CS Str.empty = true)
    (hdCS : PySem.W.hasDictIn K CS = true)
    (poCS : PySem.W.plainOver K CS = true)
    (saCS : PySem.W.findIn K (.ref CS) "__setattr__" = some (some (.builtin "object.__setattr__")))
    (mkCS : PySem.W.makesIn K CS = true)
    (kcCS : PySem.W.keepIn K (.ref CS) = true)
    (pgCV : PySem.W.plainGet K CV Str.empty = true)
    (hdCV : PySem.W.hasDictIn K CV = true)
    (poCV : PySem.W.plainOver K CV = true)
    (saCV : PySem.W.findIn K (.ref CV) "__setattr__" = some (some (.builtin "object.__setattr__")))
    (mkCV : PySem.W.makesIn K CV = true)
    (kcCV : PySem.W.keepIn K (.ref CV) = true)
    (nS_position : PySem.W.findIn K (.ref CS) "position" = some none)
    (nS_deadline : PySem.W.findIn K (.ref CS) "deadline" = some none)
    (nS_loaves : PySem.W.findIn K (.ref CS) "loaves" = some none)
    (nV_departure : PySem.W.findIn K (.ref CV) "departure" = some none)
    (nV_shops : PySem.W.findIn K (.ref CV) "shops" = some none)
    (aShI : PySem.W.findIn K (.ref CS) "__init__" = some (some (.ref fShI)))
    (iShI : PySem.W.isFn K (.ref fShI) = true)
    (lShI : K.lookup fShI = some ⟨ocShI, odShI, .func (PySem.W.fnOf "__init__" "Shop.__init__" (defArgs sShI) (defBody sShI) (defScope sShI) .none kVShI dcShI pmShI anShI cdShI ctShI), slShI⟩)
    (cShI : PySem.W.codeIn K cdShI "Shop.__init__" = true)
    (kShI : PySem.W.keepIn K (.ref fShI) = true)
    (aVaI : PySem.W.findIn K (.ref CV) "__init__" = some (some (.ref fVaI)))
    (iVaI : PySem.W.isFn K (.ref fVaI) = true)
    (lVaI : K.lookup fVaI = some ⟨ocVaI, odVaI, .func (PySem.W.fnOf "__init__" "Van.__init__" (defArgs sVaI) (defBody sVaI) (defScope sVaI) .none kVVaI dcVaI pmVaI anVaI cdVaI ctVaI), slVaI⟩)
    (cVaI : PySem.W.codeIn K cdVaI "Van.__init__" = true)
    (kVaI : PySem.W.keepIn K (.ref fVaI) = true)
    (aHas : PySem.W.findIn K (.ref CV) "has_shop" = some (some (.ref fHas)))
    (iHas : PySem.W.isFn K (.ref fHas) = true)
    (lHas : K.lookup fHas = some ⟨ocHas, odHas, .func (PySem.W.fnOf "has_shop" "Van.has_shop" (defArgs sHas) (defBody sHas) (defScope sHas) .none kVHas dcHas pmHas anHas cdHas ctHas), slHas⟩)
    (cHas : PySem.W.codeIn K cdHas "Van.has_shop" = true)
    (kHas : PySem.W.keepIn K (.ref fHas) = true)
    (aAdd : PySem.W.findIn K (.ref CV) "add_shop" = some (some (.ref fAdd)))
    (iAdd : PySem.W.isFn K (.ref fAdd) = true)
    (lAdd : K.lookup fAdd = some ⟨ocAdd, odAdd, .func (PySem.W.fnOf "add_shop" "Van.add_shop" (defArgs sAdd) (defBody sAdd) (defScope sAdd) .none kVAdd dcAdd pmAdd anAdd cdAdd ctAdd), slAdd⟩)
    (cAdd : PySem.W.codeIn K cdAdd "Van.add_shop" = true)
    (kAdd : PySem.W.keepIn K (.ref fAdd) = true)
    (aRem : PySem.W.findIn K (.ref CV) "remove_shop" = some (some (.ref fRem)))
    (iRem : PySem.W.isFn K (.ref fRem) = true)
    (lRem : K.lookup fRem = some ⟨ocRem, odRem, .func (PySem.W.fnOf "remove_shop" "Van.remove_shop" (defArgs sRem) (defBody sRem) (defScope sRem) .none kVRem dcRem pmRem anRem cdRem ctRem), slRem⟩)
    (cRem : PySem.W.codeIn K cdRem "Van.remove_shop" = true)
    (kRem : PySem.W.keepIn K (.ref fRem) = true)
    (aPos : PySem.W.findIn K (.ref CV) "set_position" = some (some (.ref fPos)))
    (iPos : PySem.W.isFn K (.ref fPos) = true)
    (lPos : K.lookup fPos = some ⟨ocPos, odPos, .func (PySem.W.fnOf "set_position" "Van.set_position" (defArgs sPos) (defBody sPos) (defScope sPos) .none kVPos dcPos pmPos anPos cdPos ctPos), slPos⟩)
    (cPos : PySem.W.codeIn K cdPos "Van.set_position" = true)
    (kPos : PySem.W.keepIn K (.ref fPos) = true)
    (aDea : PySem.W.findIn K (.ref CV) "set_deadline" = some (some (.ref fDea)))
    (iDea : PySem.W.isFn K (.ref fDea) = true)
    (lDea : K.lookup fDea = some ⟨ocDea, odDea, .func (PySem.W.fnOf "set_deadline" "Van.set_deadline" (defArgs sDea) (defBody sDea) (defScope sDea) .none kVDea dcDea pmDea anDea cdDea ctDea), slDea⟩)
    (cDea : PySem.W.codeIn K cdDea "Van.set_deadline" = true)
    (kDea : PySem.W.keepIn K (.ref fDea) = true)
    (aLoa : PySem.W.findIn K (.ref CV) "set_loaves" = some (some (.ref fLoa)))
    (iLoa : PySem.W.isFn K (.ref fLoa) = true)
    (lLoa : K.lookup fLoa = some ⟨ocLoa, odLoa, .func (PySem.W.fnOf "set_loaves" "Van.set_loaves" (defArgs sLoa) (defBody sLoa) (defScope sLoa) .none kVLoa dcLoa pmLoa anLoa cdLoa ctLoa), slLoa⟩)
    (cLoa : PySem.W.codeIn K cdLoa "Van.set_loaves" = true)
    (kLoa : PySem.W.keepIn K (.ref fLoa) = true)
    (aDep : PySem.W.findIn K (.ref CV) "set_departure" = some (some (.ref fDep)))
    (iDep : PySem.W.isFn K (.ref fDep) = true)
    (lDep : K.lookup fDep = some ⟨ocDep, odDep, .func (PySem.W.fnOf "set_departure" "Van.set_departure" (defArgs sDep) (defBody sDep) (defScope sDep) .none kVDep dcDep pmDep anDep cdDep ctDep), slDep⟩)
    (cDep : PySem.W.codeIn K cdDep "Van.set_departure" = true)
    (kDep : PySem.W.keepIn K (.ref fDep) = true)
    (aAls : PySem.W.findIn K (.ref CV) "all_shops" = some (some (.ref fAls)))
    (iAls : PySem.W.isFn K (.ref fAls) = true)
    (lAls : K.lookup fAls = some ⟨ocAls, odAls, .func (PySem.W.fnOf "all_shops" "Van.all_shops" (defArgs sAls) (defBody sAls) (defScope sAls) .none kVAls dcAls pmAls anAls cdAls ctAls), slAls⟩)
    (cAls : PySem.W.codeIn K cdAls "Van.all_shops" = true)
    (kAls : PySem.W.keepIn K (.ref fAls) = true)
    (aAll : PySem.W.findIn K (.ref CV) "best_route_to_all" = some (some (.ref fAll)))
    (iAll : PySem.W.isFn K (.ref fAll) = true)
    (lAll : K.lookup fAll = some ⟨ocAll, odAll, .func (PySem.W.fnOf "best_route_to_all" "Van.best_route_to_all" (defArgs sAll) (defBody sAll) (defScope sAll) .none kVAll dcAll pmAll anAll cdAll ctAll), slAll⟩)
    (cAll : PySem.W.codeIn K cdAll "Van.best_route_to_all" = true)
    (kAll : PySem.W.keepIn K (.ref fAll) = true)
    (aEt : PySem.W.findIn K (.ref CV) "earliest_finish_to" = some (some (.ref fEt)))
    (iEt : PySem.W.isFn K (.ref fEt) = true)
    (lEt : K.lookup fEt = some ⟨ocEt, odEt, .func (PySem.W.fnOf "earliest_finish_to" "Van.earliest_finish_to" (defArgs sEt) (defBody sEt) (defScope sEt) .none kVEt dcEt pmEt anEt cdEt ctEt), slEt⟩)
    (cEt : PySem.W.codeIn K cdEt "Van.earliest_finish_to" = true)
    (kEt : PySem.W.keepIn K (.ref fEt) = true)
    (aEf : PySem.W.findIn K (.ref CV) "earliest_finish" = some (some (.ref fEf)))
    (iEf : PySem.W.isFn K (.ref fEf) = true)
    (lEf : K.lookup fEf = some ⟨ocEf, odEf, .func (PySem.W.fnOf "earliest_finish" "Van.earliest_finish" (defArgs sEf) (defBody sEf) (defScope sEf) .none kVEf dcEf pmEf anEf cdEf ctEf), slEf⟩)
    (cEf : PySem.W.codeIn K cdEf "Van.earliest_finish" = true)
    (kEf : PySem.W.keepIn K (.ref fEf) = true)
    (aBr : PySem.W.findIn K (.ref CV) "best_route" = some (some (.ref fBr)))
    (iBr : PySem.W.isFn K (.ref fBr) = true)
    (lBr : K.lookup fBr = some ⟨ocBr, odBr, .func (PySem.W.fnOf "best_route" "Van.best_route" (defArgs sBr) (defBody sBr) (defScope sBr) .none kVBr dcBr pmBr anBr cdBr ctBr), slBr⟩)
    (cBr : PySem.W.codeIn K cdBr "Van.best_route" = true)
    (kBr : PySem.W.keepIn K (.ref fBr) = true)
    (aIr : PySem.W.findIn K (.ref CV) "is_route" = some (some (.ref fIr)))
    (iIr : PySem.W.isFn K (.ref fIr) = true)
    (lIr : K.lookup fIr = some ⟨ocIr, odIr, .func (PySem.W.fnOf "is_route" "Van.is_route" (defArgs sIr) (defBody sIr) (defScope sIr) .none kVIr dcIr pmIr anIr cdIr ctIr), slIr⟩)
    (cIr : PySem.W.codeIn K cdIr "Van.is_route" = true)
    (kIr : PySem.W.keepIn K (.ref fIr) = true)
    (aAt : PySem.W.findIn K (.ref CV) "arrival_times" = some (some (.ref fAt)))
    (iAt : PySem.W.isFn K (.ref fAt) = true)
    (lAt : K.lookup fAt = some ⟨ocAt, odAt, .func (PySem.W.fnOf "arrival_times" "Van.arrival_times" (defArgs sAt) (defBody sAt) (defScope sAt) .none kVAt dcAt pmAt anAt cdAt ctAt), slAt⟩)
    (cAt : PySem.W.codeIn K cdAt "Van.arrival_times" = true)
    (kAt : PySem.W.keepIn K (.ref fAt) = true)
    (aCh : PySem.W.findIn K (.ref CV) "check_route" = some (some (.ref fCh)))
    (iCh : PySem.W.isFn K (.ref fCh) = true)
    (lCh : K.lookup fCh = some ⟨ocCh, odCh, .func (PySem.W.fnOf "check_route" "Van.check_route" (defArgs sCh) (defBody sCh) (defScope sCh) .none kVCh dcCh pmCh anCh cdCh ctCh), slCh⟩)
    (cCh : PySem.W.codeIn K cdCh "Van.check_route" = true)
    (kCh : PySem.W.keepIn K (.ref fCh) = true)
    (aMl : PySem.W.findIn K (.ref CV) "max_loaves" = some (some (.ref fMl)))
    (iMl : PySem.W.isFn K (.ref fMl) = true)
    (lMl : K.lookup fMl = some ⟨ocMl, odMl, .func (PySem.W.fnOf "max_loaves" "Van.max_loaves" (defArgs sMl) (defBody sMl) (defScope sMl) .none kVMl dcMl pmMl anMl cdMl ctMl), slMl⟩)
    (cMl : PySem.W.codeIn K cdMl "Van.max_loaves" = true)
    (kMl : PySem.W.keepIn K (.ref fMl) = true)
    (aEo : PySem.W.findIn K (.ref CV) "earliest_finish_of" = some (some (.ref fEo)))
    (iEo : PySem.W.isFn K (.ref fEo) = true)
    (lEo : K.lookup fEo = some ⟨ocEo, odEo, .func (PySem.W.fnOf "earliest_finish_of" "Van.earliest_finish_of" (defArgs sEo) (defBody sEo) (defScope sEo) .none kVEo dcEo pmEo anEo cdEo ctEo), slEo⟩)
    (cEo : PySem.W.codeIn K cdEo "Van.earliest_finish_of" = true)
    (kEo : PySem.W.keepIn K (.ref fEo) = true)
    (aLd : PySem.W.findIn K (.ref CV) "latest_departure" = some (some (.ref fLd)))
    (iLd : PySem.W.isFn K (.ref fLd) = true)
    (lLd : K.lookup fLd = some ⟨ocLd, odLd, .func (PySem.W.fnOf "latest_departure" "Van.latest_departure" (defArgs sLd) (defBody sLd) (defScope sLd) .none kVLd dcLd pmLd anLd cdLd ctLd), slLd⟩)
    (cLd : PySem.W.codeIn K cdLd "Van.latest_departure" = true)
    (kLd : PySem.W.keepIn K (.ref fLd) = true)
    (aRt : PySem.W.findIn K (.ref CV) "return_time" = some (some (.ref fRt)))
    (iRt : PySem.W.isFn K (.ref fRt) = true)
    (lRt : K.lookup fRt = some ⟨ocRt, odRt, .func (PySem.W.fnOf "return_time" "Van.return_time" (defArgs sRt) (defBody sRt) (defScope sRt) .none kVRt dcRt pmRt anRt cdRt ctRt), slRt⟩)
    (cRt : PySem.W.codeIn K cdRt "Van.return_time" = true)
    (kRt : PySem.W.keepIn K (.ref fRt) = true)
    (aEw : PySem.W.findIn K (.ref CV) "earliest_finish_without" = some (some (.ref fEw)))
    (iEw : PySem.W.isFn K (.ref fEw) = true)
    (lEw : K.lookup fEw = some ⟨ocEw, odEw, .func (PySem.W.fnOf "earliest_finish_without" "Van.earliest_finish_without" (defArgs sEw) (defBody sEw) (defScope sEw) .none kVEw dcEw pmEw anEw cdEw ctEw), slEw⟩)
    (cEw : PySem.W.codeIn K cdEw "Van.earliest_finish_without" = true)
    (kEw : PySem.W.keepIn K (.ref fEw) = true)
    (aDe : PySem.W.findIn K (.ref CV) "describe" = some (some (.ref fDe)))
    (iDe : PySem.W.isFn K (.ref fDe) = true)
    (lDe : K.lookup fDe = some ⟨ocDe, odDe, .func (PySem.W.fnOf "describe" "Van.describe" (defArgs sDe) (defBody sDe) (defScope sDe) .none kVDe dcDe pmDe anDe cdDe ctDe), slDe⟩)
    (cDe : PySem.W.codeIn K cdDe "Van.describe" = true)
    (kDe : PySem.W.keepIn K (.ref fDe) = true)
    (n0 : PySem.W.nsIn K mainGlobals "LATEST_TIME" = some (some (.int 299 t0)))
    (n1 : PySem.W.nsIn K mainGlobals "FARTHEST" = some (some (.int 99 t1)))
    (n2 : PySem.W.nsIn K mainGlobals "MOST_LOAVES" = some (some (.int 99 t2)))
    (n3 : PySem.W.nsIn K mainGlobals "MOST_SHOPS" = some (some (.int 7 t3)))
    (n4 : PySem.W.nsIn K mainGlobals "NO_INSTANCE" = some (some (.int (-11) t4)))
    (n5 : PySem.W.nsIn K mainGlobals "NO_SUCH_SHOP" = some (some (.int (-2) t5)))
    (n6 : PySem.W.nsIn K mainGlobals "OUT_OF_RANGE" = some (some (.int (-22) t6)))
    (n7 : PySem.W.nsIn K mainGlobals "TOO_MANY_SHOPS" = some (some (.int (-28) t7)))
    (n8 : PySem.W.nsIn K mainGlobals "NOT_ON_TIME" = some (some (.int (-33) t8)))
    (n9 : PySem.W.nsIn K mainGlobals "CREATE" = some (some (.int 0 t9)))
    (n10 : PySem.W.nsIn K mainGlobals "ADD_SHOP" = some (some (.int 1 t10)))
    (n11 : PySem.W.nsIn K mainGlobals "REMOVE_SHOP" = some (some (.int 2 t11)))
    (n12 : PySem.W.nsIn K mainGlobals "SET_POSITION" = some (some (.int 3 t12)))
    (n13 : PySem.W.nsIn K mainGlobals "SET_DEADLINE" = some (some (.int 4 t13)))
    (n14 : PySem.W.nsIn K mainGlobals "SET_LOAVES" = some (some (.int 5 t14)))
    (n15 : PySem.W.nsIn K mainGlobals "SET_DEPARTURE" = some (some (.int 6 t15)))
    (n16 : PySem.W.nsIn K mainGlobals "EARLIEST_FINISH" = some (some (.int 7 t16)))
    (n17 : PySem.W.nsIn K mainGlobals "BEST_ROUTE" = some (some (.int 8 t17)))
    (n18 : PySem.W.nsIn K mainGlobals "ARRIVAL_TIMES" = some (some (.int 9 t18)))
    (n19 : PySem.W.nsIn K mainGlobals "CHECK_ROUTE" = some (some (.int 10 t19)))
    (n20 : PySem.W.nsIn K mainGlobals "MAX_LOAVES" = some (some (.int 11 t20)))
    (n21 : PySem.W.nsIn K mainGlobals "EARLIEST_FINISH_OF" = some (some (.int 12 t21)))
    (n22 : PySem.W.nsIn K mainGlobals "LATEST_DEPARTURE" = some (some (.int 13 t22)))
    (n23 : PySem.W.nsIn K mainGlobals "RETURN_TIME" = some (some (.int 14 t23)))
    (n24 : PySem.W.nsIn K mainGlobals "EARLIEST_FINISH_WITHOUT" = some (some (.int 15 t24)))
    (z_abs : PySem.W.nsIn K mainGlobals "abs" = some none)
    (z_len : PySem.W.nsIn K mainGlobals "len" = some none)
    (z_range : PySem.W.nsIn K mainGlobals "range" = some none)
    (z_list : PySem.W.nsIn K mainGlobals "list" = some none)
    (z_sorted : PySem.W.nsIn K mainGlobals "sorted" = some none)
    (z_zip : PySem.W.nsIn K mainGlobals "zip" = some none)
    (z_min : PySem.W.nsIn K mainGlobals "min" = some none)
    (z_max : PySem.W.nsIn K mainGlobals "max" = some none)
    (z_sum : PySem.W.nsIn K mainGlobals "sum" = some none)
    (z_all : PySem.W.nsIn K mainGlobals "all" = some none)
    (z_set : PySem.W.nsIn K mainGlobals "set" = some none)
    (aW : PySem.W.nsIn K mainGlobals "WHOLE_NUMBERS" = some (some (.ref tW)))
    (lW : K.lookup tW = some ⟨.type "tuple", odW, .seq itW nW, slW⟩)
    (sW : itW.size ≤ sizeLine)
    (vW : Vals (wholeN.map V.int) itW.toList)
    (aR : PySem.W.nsIn K mainGlobals "CALLS_WITH_A_ROUTE" = some (some (.ref tR)))
    (lR : K.lookup tR = some ⟨.type "tuple", odR, .seq itR nR, slR⟩)
    (sR : itR.size ≤ sizeLine)
    (vR : Vals (withR.map V.int) itR.toList) :
    ∃ (fd : FuncData) (cs : List (Addr × Addr)) (sp : Sp), (∀ p ∈ cs, h.get? p.2 = some (PySem.W.tabObj #[])) ∧ (∀ p ∈ cs, K.lookup p.2 = none) ∧ (∀ p ∈ cs, PySem.W.CodeHd h p.1 p.2) ∧ (∀ (s : Shared) (u : Value), BindsTo s fd ⟨[u], []⟩ [("calls", u)]) ∧
      (∀ (H : Hp) (a : Addr) (ns : List Int) (d0 : PySem.W.WData), (PySr100.answers_asked ns = true ∧ d0 = .list ((PySr100.answers ns).map .int)) → (∀ p ∈ cs, H p.2 = some (.tbl #[])) → SqL K H a (ns.map V.int) → sp [.ref a] H (fun v H' => Dw K H' v d0) fun _ _ _ => False) ∧
      ∀ base : Heap, K.In base → base.Ns mainGlobals mg → (∀ p ∈ cs, TabB base mg p.1 p.2) → FnOk P w K mg base L2.CX0 10 fa fd ["calls"] sp := by
  have e := hfa.symm.trans (PySem.W.mg_of X T.g aAn)
  cases e
  have z := PySem.W.tab_of T X rD tI
  have G : ∀ {x : Str} {u : Value}, PySem.W.nsIn K mainGlobals x = some (some u) → mg x = some u := fun e => PySem.W.mg_of X T.g e
  have Z : ∀ {x : Str}, PySem.W.nsIn K mainGlobals x = some none → mg x = none := fun e => PySem.W.mg_none_of X T.g e
  have TS : TxtS K mg CS := ⟨⟨pgCS, hdCS, poCS, saCS⟩, nS_position, nS_deadline, nS_loaves⟩
  have TV : TxtV K mg CV CS := ⟨TS, ⟨pgCV, hdCV, poCV, saCV⟩, nV_departure, nV_shops, ⟨_, G n0⟩, ⟨_, G n1⟩, ⟨_, G n2⟩, ⟨_, G n3⟩, ⟨_, G n4⟩, ⟨_, G n5⟩, ⟨_, G n6⟩, ⟨_, G n7⟩, ⟨_, G n8⟩, Z z_abs, Z z_len, Z z_range, Z z_list⟩
  have TN : TxtN K mg := ⟨⟨tW, G aW, fun H => .inr ⟨_, itW, nW, lW, rfl, rfl, sW, vW⟩⟩, ⟨tR, G aR, fun H => .inr ⟨_, itR, nR, lR, rfl, rfl, sR, vR⟩⟩, ⟨_, G n9⟩, ⟨_, G n10⟩, ⟨_, G n11⟩, ⟨_, G n12⟩, ⟨_, G n13⟩, ⟨_, G n14⟩, ⟨_, G n15⟩, ⟨_, G n16⟩, ⟨_, G n17⟩, ⟨_, G n18⟩, ⟨_, G n19⟩, ⟨_, G n20⟩, ⟨_, G n21⟩, ⟨_, G n22⟩, ⟨_, G n23⟩, ⟨_, G n24⟩⟩
  have FBy := fun_mk (st := sBy) lBy cBy kBy
  have bBy := FBy.binds (ps := ["shops", "chosen"]) fun _ _ _ _ _ _ us hl => match us, hl with | [_, _], _ => rfl
  have FSw := fun_mk (st := sSw) lSw cSw kSw
  have bSw := FSw.binds (ps := ["shops", "chosen"]) fun _ _ _ _ _ _ us hl => match us, hl with | [_, _], _ => rfl
  have FTi := fun_mk (st := sTi) lTi cTi kTi
  have bTi := FTi.binds (ps := ["shops", "route", "departure"]) fun _ _ _ _ _ _ us hl => match us, hl with | [_, _, _], _ => rfl
  have FOn := fun_mk (st := sOn) lOn cOn kOn
  have bOn := FOn.binds (ps := ["shops", "route", "times"]) fun _ _ _ _ _ _ us hl => match us, hl with | [_, _, _], _ => rfl
  have FFi := fun_mk (st := sFi) lFi cFi kFi
  have bFi := FFi.binds (ps := ["times", "departure"]) fun _ _ _ _ _ _ us hl => match us, hl with | [_, _], _ => rfl
  have FBe := fun_mk (st := sBe) lBe cBe kBe
  have bBe := FBe.binds (ps := ["shops", "chosen", "departure"]) fun _ _ _ _ _ _ us hl => match us, hl with | [_, _, _], _ => rfl
  have FSp := fun_mk (st := sSp) lSp cSp kSp
  have bSp := FSp.binds (ps := ["shops", "route", "limit"]) fun _ _ _ _ _ _ us hl => match us, hl with | [_, _, _], _ => rfl
  have FLt := fun_mk (st := sLt) lLt cLt kLt
  have bLt := FLt.binds (ps := ["shops", "chosen", "limit"]) fun _ _ _ _ _ _ us hl => match us, hl with | [_, _, _], _ => rfl
  have FLo := fun_mk (st := sLo) lLo cLo kLo
  have bLo := FLo.binds (ps := ["shops", "chosen"]) fun _ _ _ _ _ _ us hl => match us, hl with | [_, _], _ => rfl
  have FNu := fun_mk (st := sNu) lNu cNu kNu
  have bNu := FNu.binds (ps := ["shops"]) fun _ _ _ _ _ _ us hl => match us, hl with | [_], _ => rfl
  have FMe := fun_mk (st := sMe) lMe cMe kMe
  have bMe := FMe.binds (ps := ["mask", "shops"]) fun _ _ _ _ _ _ us hl => match us, hl with | [_, _], _ => rfl
  have FRi := fun_mk (st := sRi) lRi cRi kRi
  have bRi := FRi.binds (ps := ["shops", "departure"]) fun _ _ _ _ _ _ us hl => match us, hl with | [_, _], _ => rfl
  have FIsT := fun_mk (st := sIsT) lIsT cIsT kIsT
  have bIsT := FIsT.binds (ps := ["value"]) fun _ _ _ _ _ _ us hl => match us, hl with | [_], _ => rfl
  have FIsP := fun_mk (st := sIsP) lIsP cIsP kIsP
  have bIsP := FIsP.binds (ps := ["value"]) fun _ _ _ _ _ _ us hl => match us, hl with | [_], _ => rfl
  have FIsL := fun_mk (st := sIsL) lIsL cIsL kIsL
  have bIsL := FIsL.binds (ps := ["value"]) fun _ _ _ _ _ _ us hl => match us, hl with | [_], _ => rfl
  have FEn := fun_mk (st := sEn) lEn cEn kEn
  have bEn := FEn.binds (ps := ["calls", "start"]) fun _ _ _ _ _ _ us hl => match us, hl with | [_, _], _ => rfl
  have FCha := fun_mk (st := sCha) lCha cCha kCha
  have bCha := FCha.binds (ps := ["van", "number", "given"]) fun _ _ _ _ _ _ us hl => match us, hl with | [_, _, _], _ => rfl
  have FQue := fun_mk (st := sQue) lQue cQue kQue
  have bQue := FQue.binds (ps := ["van", "number", "given"]) fun _ _ _ _ _ _ us hl => match us, hl with | [_, _, _], _ => rfl
  have FAn := fun_mk (st := sAn) lAn cAn kAn
  have bAn := FAn.binds (ps := ["calls"]) fun _ _ _ _ _ _ us hl => match us, hl with | [_], _ => rfl
  have FShI := fun_mk (st := sShI) lShI cShI kShI
  have bShI := FShI.binds (ps := ["self", "position", "deadline", "loaves"]) fun _ _ _ _ _ _ us hl => match us, hl with | [_, _, _, _], _ => rfl
  have FVaI := fun_mk (st := sVaI) lVaI cVaI kVaI
  have bVaI := FVaI.binds (ps := ["self", "departure"]) fun _ _ _ _ _ _ us hl => match us, hl with | [_, _], _ => rfl
  have FHas := fun_mk (st := sHas) lHas cHas kHas
  have bHas := FHas.binds (ps := ["self", "i"]) fun _ _ _ _ _ _ us hl => match us, hl with | [_, _], _ => rfl
  have FAdd := fun_mk (st := sAdd) lAdd cAdd kAdd
  have bAdd := FAdd.binds (ps := ["self", "position", "deadline", "loaves"]) fun _ _ _ _ _ _ us hl => match us, hl with | [_, _, _, _], _ => rfl
  have FRem := fun_mk (st := sRem) lRem cRem kRem
  have bRem := FRem.binds (ps := ["self", "i"]) fun _ _ _ _ _ _ us hl => match us, hl with | [_, _], _ => rfl
  have FPos := fun_mk (st := sPos) lPos cPos kPos
  have bPos := FPos.binds (ps := ["self", "i", "position"]) fun _ _ _ _ _ _ us hl => match us, hl with | [_, _, _], _ => rfl
  have FDea := fun_mk (st := sDea) lDea cDea kDea
  have bDea := FDea.binds (ps := ["self", "i", "deadline"]) fun _ _ _ _ _ _ us hl => match us, hl with | [_, _, _], _ => rfl
  have FLoa := fun_mk (st := sLoa) lLoa cLoa kLoa
  have bLoa := FLoa.binds (ps := ["self", "i", "loaves"]) fun _ _ _ _ _ _ us hl => match us, hl with | [_, _, _], _ => rfl
  have FDep := fun_mk (st := sDep) lDep cDep kDep
  have bDep := FDep.binds (ps := ["self", "departure"]) fun _ _ _ _ _ _ us hl => match us, hl with | [_, _], _ => rfl
  have FAls := fun_mk (st := sAls) lAls cAls kAls
  have bAls := FAls.binds (ps := ["self"]) fun _ _ _ _ _ _ us hl => match us, hl with | [_], _ => rfl
  have FAll := fun_mk (st := sAll) lAll cAll kAll
  have bAll := FAll.binds (ps := ["self"]) fun _ _ _ _ _ _ us hl => match us, hl with | [_], _ => rfl
  have FEt := fun_mk (st := sEt) lEt cEt kEt
  have bEt := FEt.binds (ps := ["self", "chosen"]) fun _ _ _ _ _ _ us hl => match us, hl with | [_, _], _ => rfl
  have FEf := fun_mk (st := sEf) lEf cEf kEf
  have bEf := FEf.binds (ps := ["self"]) fun _ _ _ _ _ _ us hl => match us, hl with | [_], _ => rfl
  have FBr := fun_mk (st := sBr) lBr cBr kBr
  have bBr := FBr.binds (ps := ["self"]) fun _ _ _ _ _ _ us hl => match us, hl with | [_], _ => rfl
  have FIr := fun_mk (st := sIr) lIr cIr kIr
  have bIr := FIr.binds (ps := ["self", "route"]) fun _ _ _ _ _ _ us hl => match us, hl with | [_, _], _ => rfl
  have FAt := fun_mk (st := sAt) lAt cAt kAt
  have bAt := FAt.binds (ps := ["self", "route"]) fun _ _ _ _ _ _ us hl => match us, hl with | [_, _], _ => rfl
  have FCh := fun_mk (st := sCh) lCh cCh kCh
  have bCh := FCh.binds (ps := ["self", "route"]) fun _ _ _ _ _ _ us hl => match us, hl with | [_, _], _ => rfl
  have FMl := fun_mk (st := sMl) lMl cMl kMl
  have bMl := FMl.binds (ps := ["self"]) fun _ _ _ _ _ _ us hl => match us, hl with | [_], _ => rfl
  have FEo := fun_mk (st := sEo) lEo cEo kEo
  have bEo := FEo.binds (ps := ["self", "mask"]) fun _ _ _ _ _ _ us hl => match us, hl with | [_, _], _ => rfl
  have FLd := fun_mk (st := sLd) lLd cLd kLd
  have bLd := FLd.binds (ps := ["self"]) fun _ _ _ _ _ _ us hl => match us, hl with | [_], _ => rfl
  have FRt := fun_mk (st := sRt) lRt cRt kRt
  have bRt := FRt.binds (ps := ["self"]) fun _ _ _ _ _ _ us hl => match us, hl with | [_], _ => rfl
  have FEw := fun_mk (st := sEw) lEw cEw kEw
  have bEw := FEw.binds (ps := ["self", "i"]) fun _ _ _ _ _ _ us hl => match us, hl with | [_, _], _ => rfl
  have FDe := fun_mk (st := sDe) lDe cDe kDe
  have bDe := FDe.binds (ps := ["self"]) fun _ _ _ _ _ _ us hl => match us, hl with | [_], _ => rfl
  have MShI : Mk K CS fShI := ⟨mkCS, aShI, iShI, kcCS⟩
  have MVaI : Mk K CV fVaI := ⟨mkCV, aVaI, iVaI, kcCV⟩
  have MHas : Meth K CV "has_shop" fHas := ⟨aHas, iHas, kHas⟩
  have MAdd : Meth K CV "add_shop" fAdd := ⟨aAdd, iAdd, kAdd⟩
  have MRem : Meth K CV "remove_shop" fRem := ⟨aRem, iRem, kRem⟩
  have MPos : Meth K CV "set_position" fPos := ⟨aPos, iPos, kPos⟩
  have MDea : Meth K CV "set_deadline" fDea := ⟨aDea, iDea, kDea⟩
  have MLoa : Meth K CV "set_loaves" fLoa := ⟨aLoa, iLoa, kLoa⟩
  have MDep : Meth K CV "set_departure" fDep := ⟨aDep, iDep, kDep⟩
  have MAls : Meth K CV "all_shops" fAls := ⟨aAls, iAls, kAls⟩
  have MAll : Meth K CV "best_route_to_all" fAll := ⟨aAll, iAll, kAll⟩
  have MEt : Meth K CV "earliest_finish_to" fEt := ⟨aEt, iEt, kEt⟩
  have MEf : Meth K CV "earliest_finish" fEf := ⟨aEf, iEf, kEf⟩
  have MBr : Meth K CV "best_route" fBr := ⟨aBr, iBr, kBr⟩
  have MIr : Meth K CV "is_route" fIr := ⟨aIr, iIr, kIr⟩
  have MAt : Meth K CV "arrival_times" fAt := ⟨aAt, iAt, kAt⟩
  have MCh : Meth K CV "check_route" fCh := ⟨aCh, iCh, kCh⟩
  have MMl : Meth K CV "max_loaves" fMl := ⟨aMl, iMl, kMl⟩
  have MEo : Meth K CV "earliest_finish_of" fEo := ⟨aEo, iEo, kEo⟩
  have MLd : Meth K CV "latest_departure" fLd := ⟨aLd, iLd, kLd⟩
  have MRt : Meth K CV "return_time" fRt := ⟨aRt, iRt, kRt⟩
  have MEw : Meth K CV "earliest_finish_without" fEw := ⟨aEw, iEw, kEw⟩
  have MDe : Meth K CV "describe" fDe := ⟨aDe, iDe, kDe⟩
  refine ⟨_, [(c, Pt)], spAn K CV CS Pt, fun p hp => ?_, fun p hp => ?_, fun p hp => ?_, fun s u => .of_eq (fd := PySem.W.fnOf "answers" "answers" (defArgs sAn) (defBody sAn) (defScope sAn) .none kVAn dcAn pmAn anAn cdAn ctAn) rfl, fun H a ns d0 hg hTab hs => ?_, fun base _ _ TB => ?_⟩
  · rw [List.mem_singleton.mp hp]; exact z.2
  · rw [List.mem_singleton.mp hp]; exact nT
  · rw [List.mem_singleton.mp hp]; exact PySem.W.codeHd_of_K X hC
  · refine ⟨a, ns, rfl, hs, hg.1, fun p hp => ?_, fun H' t ht => ?_⟩
    · rw [List.mem_singleton.mp hp]
      exact ⟨#[], hTab (c, Pt) (List.mem_singleton.mpr rfl), True.intro, fun pos cv h => by cases h⟩
    · rw [hg.2]
      exact .lst (SqL.of ht) (dw_ints _)
  · have tb := TB (c, Pt) (List.mem_singleton.mpr rfl)
    have GBy := ok_by (P := P) (w := w) (base := base) (Pt := Pt) TS (Z z_sorted) (Z z_abs) tb lBy cBy
    have GSw := ok_sw (P := P) (w := w) (base := base) FSw TS (Z z_range) (Z z_len) (G aBy) kBy GBy bBy
    have GTi := ok_ti (P := P) (w := w) (base := base) (Pt := Pt) FTi TS (Z z_abs)
    have GOn := ok_on (P := P) (w := w) (base := base) (Pt := Pt) FOn TS (Z z_zip)
    have GFi := ok_fi (P := P) (w := w) (base := base) FFi (Z z_len)
    have GBe := ok_be (P := P) (w := w) (base := base) FBe (G aSw) kSw GSw bSw (G aTi) kTi GTi bTi (G aOn) kOn GOn bOn (G aFi) kFi GFi bFi
    have GSp := ok_spa (P := P) (w := w) (base := base) FSp TS (Z z_zip) (Z z_min) (G aTi) kTi GTi bTi
    have GLt := ok_lt (P := P) (w := w) (base := base) FLt (Z z_max) (G aSw) kSw GSw bSw (G aSp) kSp GSp bSp
    have GLo := ok_lo (P := P) (w := w) (base := base) FLo TS (Z z_sum)
    have GNu := ok_nu (P := P) (w := w) (base := base) (CS := CS) FNu (Z z_len)
    have GMe := ok_me (P := P) (w := w) (base := base) (CS := CS) FMe (Z z_len) (Z z_range)
    have GRi := ok_ri (P := P) (w := w) (base := base) FRi (Z z_range) (G aNu) kNu GNu bNu (G aMe) kMe GMe bMe (G aLo) kLo GLo bLo (G aBe) kBe GBe bBe
    have GIsT := ok_isT (P := P) (w := w) (base := base) FIsT TV
    have GIsP := ok_isP (P := P) (w := w) (base := base) FIsP TV
    have GIsL := ok_isL (P := P) (w := w) (base := base) FIsL TV
    have GShI := ok_shI (P := P) (w := w) (base := base) FShI TS
    have GVaI := ok_vaI (P := P) (w := w) (base := base) FVaI TV
    have GHas := ok_has (P := P) (w := w) (base := base) FHas TV
    have GAdd := ok_add (P := P) (w := w) (base := base) (Pt := Pt) (fS := CS) FAdd TV (G aIsP) kIsP GIsP bIsP (G aIsT) kIsT GIsT bIsT (G aIsL) kIsL GIsL bIsL (G aCS) MShI GShI bShI
    have GRem := ok_rem (P := P) (w := w) (base := base) (Pt := Pt) FRem TV MHas GHas bHas
    have GPos := ok_pos (P := P) (w := w) (base := base) (Pt := Pt) FPos TV MHas GHas bHas (G aIsP) kIsP GIsP bIsP
    have GDea := ok_dea (P := P) (w := w) (base := base) (Pt := Pt) FDea TV MHas GHas bHas (G aIsT) kIsT GIsT bIsT
    have GLoa := ok_loa (P := P) (w := w) (base := base) (Pt := Pt) FLoa TV MHas GHas bHas (G aIsL) kIsL GIsL bIsL
    have GDep := ok_dep (P := P) (w := w) (base := base) (Pt := Pt) FDep TV (G aIsT) kIsT GIsT bIsT
    have GAls := ok_als (P := P) (w := w) (base := base) FAls TV
    have GAll := ok_all (P := P) (w := w) (base := base) FAll TV MAls GAls bAls (G aBe) kBe GBe bBe
    have GEt := ok_et (P := P) (w := w) (base := base) FEt TV (G aBe) kBe GBe bBe
    have GEf := ok_ef (P := P) (w := w) (base := base) FEf TV MAls GAls bAls MEt GEt bEt
    have GBr := ok_br (P := P) (w := w) (base := base) FBr TV MAll GAll bAll
    have GIr := ok_ir (P := P) (w := w) (base := base) FIr TV (Z z_all) (Z z_set) MHas GHas bHas
    have GAt := ok_at (P := P) (w := w) (base := base) (Pt := Pt) FAt TV MIr GIr bIr (G aTi) kTi GTi bTi
    have GCh := ok_ch (P := P) (w := w) (base := base) (Pt := Pt) FCh TV MIr GIr bIr (G aTi) kTi GTi bTi (G aOn) kOn GOn bOn (G aFi) kFi GFi bFi (G aLo) kLo GLo bLo
    have GMl := ok_ml (P := P) (w := w) (base := base) FMl TV (G aRi) kRi GRi bRi
    have GEo := ok_eo (P := P) (w := w) (base := base) FEo TV (G aNu) kNu GNu bNu (G aMe) kMe GMe bMe MEt GEt bEt
    have GLd := ok_ld (P := P) (w := w) (base := base) FLd TV MAls GAls bAls (G aLt) kLt GLt bLt
    have GRt := ok_rt (P := P) (w := w) (base := base) FRt TV MAll GAll bAll
    have GEw := ok_ew (P := P) (w := w) (base := base) FEw TV MHas GHas bHas MAls GAls bAls MEt GEt bEt
    have GDe := ok_de (P := P) (w := w) (base := base) (Pt := Pt) FDe TV
    have GEn := ok_en (P := P) (w := w) (base := base) FEn TN
    have GCha := ok_cha (P := P) (w := w) (base := base) FCha TV TN MAdd GAdd bAdd MRem GRem bRem MPos GPos bPos MDea GDea bDea MLoa GLoa bLoa MDep GDep bDep
    have GQue := ok_que (P := P) (w := w) (base := base) FQue TV TN MEf GEf bEf MBr GBr bBr MAt GAt bAt MCh GCh bCh MMl GMl bMl MEo GEo bEo MLd GLd bLd MRt GRt bRt MEw GEw bEw MDe GDe bDe
    exact ok_an FAn TV TN (G aEn) kEn GEn bEn (G aIsT) kIsT GIsT bIsT (G aCV) MVaI GVaI bVaI (G aCha) kCha GCha bCha (G aQue) kQue GQue bQue
end Br
end
open PySem PySem.W PyProof.Rows
set_option Elab.async false
set_option maxRecDepth 100000 in
set_option maxHeartbeats 0 in
theorem PySem.Challenge.cw_breadstreet_s01_answers_holds : PySem.Challenge.rw_breadstreet_s01_answers.Holds := by
  w_on; k_headS; (case hw => exact ⟨[.list [.int 7]], by decide +kernel, by decide +kernel⟩)
  k_fillS
  refine BrT.walk_specT (r := PySem.Challenge.rw_breadstreet_s01_answers) (k := 10) (x := "calls") (Good := fun ns d => PySr100.answers_asked ns = true ∧ d = .list ((PySr100.answers ns).map .int)) (by decide +kernel) rfl ⟨rfl, by decide, by decide⟩ (fun w h Y => PySem.W.kIn_of Y) ?E ?F
  case E =>
    intro a hw ha
    obtain ⟨ns, u⟩ := a
    have q : ((Codec.inLen 0 4400 ns && ns.all (Codec.inInt (-2147483648) 2147483647)) && true) = true := hw
    rw [Bool.and_eq_true, Bool.and_eq_true] at q
    exact ⟨ns, rfl, Nat.le_trans (Codec.inNat_iff.mp q.1.1).2 (by decide), ha, rfl⟩
  case F =>
    intro w mean mg mb fa h Y KX T hmg
    refine' Br.all_mk KX T hmg ?aCS ?aCV ?aBy ?lBy ?cBy ?kBy ?lC ?vC ?hC ?nT ?tI ?rD ?aSw ?lSw ?cSw ?kSw ?aTi ?lTi ?cTi ?kTi ?aOn ?lOn ?cOn ?kOn ?aFi ?lFi ?cFi ?kFi ?aBe ?lBe ?cBe ?kBe ?aSp ?lSp ?cSp ?kSp ?aLt ?lLt ?cLt ?kLt ?aLo ?lLo ?cLo ?kLo ?aNu ?lNu ?cNu ?kNu ?aMe ?lMe ?cMe ?kMe ?aRi ?lRi ?cRi ?kRi ?aIsT ?lIsT ?cIsT ?kIsT ?aIsP ?lIsP ?cIsP ?kIsP ?aIsL ?lIsL ?cIsL ?kIsL ?aEn ?lEn ?cEn ?kEn ?aCha ?lCha ?cCha ?kCha ?aQue ?lQue ?cQue ?kQue ?aAn ?lAn ?cAn ?kAn ?pgCS ?hdCS ?poCS ?saCS ?mkCS ?kcCS ?pgCV ?hdCV ?poCV ?saCV ?mkCV ?kcCV ?nS_position ?nS_deadline ?nS_loaves ?nV_departure ?nV_shops ?aShI ?iShI ?lShI ?cShI ?kShI ?aVaI ?iVaI ?lVaI ?cVaI ?kVaI ?aHas ?iHas ?lHas ?cHas ?kHas ?aAdd ?iAdd ?lAdd ?cAdd ?kAdd ?aRem ?iRem ?lRem ?cRem ?kRem ?aPos ?iPos ?lPos ?cPos ?kPos ?aDea ?iDea ?lDea ?cDea ?kDea ?aLoa ?iLoa ?lLoa ?cLoa ?kLoa ?aDep ?iDep ?lDep ?cDep ?kDep ?aAls ?iAls ?lAls ?cAls ?kAls ?aAll ?iAll ?lAll ?cAll ?kAll ?aEt ?iEt ?lEt ?cEt ?kEt ?aEf ?iEf ?lEf ?cEf ?kEf ?aBr ?iBr ?lBr ?cBr ?kBr ?aIr ?iIr ?lIr ?cIr ?kIr ?aAt ?iAt ?lAt ?cAt ?kAt ?aCh ?iCh ?lCh ?cCh ?kCh ?aMl ?iMl ?lMl ?cMl ?kMl ?aEo ?iEo ?lEo ?cEo ?kEo ?aLd ?iLd ?lLd ?cLd ?kLd ?aRt ?iRt ?lRt ?cRt ?kRt ?aEw ?iEw ?lEw ?cEw ?kEw ?aDe ?iDe ?lDe ?cDe ?kDe ?n0 ?n1 ?n2 ?n3 ?n4 ?n5 ?n6 ?n7 ?n8 ?n9 ?n10 ?n11 ?n12 ?n13 ?n14 ?n15 ?n16 ?n17 ?n18 ?n19 ?n20 ?n21 ?n22 ?n23 ?n24 ?z_abs ?z_len ?z_range ?z_list ?z_sorted ?z_zip ?z_min ?z_max ?z_sum ?z_all ?z_set ?aW ?lW ?sW ?vW ?aR ?lR ?sR ?vR
    (case aCS => k_is)
    (case aCV => k_is)
    (case aBy => k_is)
    (case lBy => k_is)
    (case cBy => k_is)
    (case kBy => k_is)
    (case lC => k_is)
    (case vC => rfl)
    (case hC => kernel_rfl)
    (case nT => kernel_rfl)
    (case tI => kernel_rfl)
    (case rD => rfl)
    (case aSw => k_is)
    (case lSw => k_is)
    (case cSw => k_is)
    (case kSw => k_is)
    (case aTi => k_is)
    (case lTi => k_is)
    (case cTi => k_is)
    (case kTi => k_is)
    (case aOn => k_is)
    (case lOn => k_is)
    (case cOn => k_is)
    (case kOn => k_is)
    (case aFi => k_is)
    (case lFi => k_is)
    (case cFi => k_is)
    (case kFi => k_is)
    (case aBe => k_is)
    (case lBe => k_is)
    (case cBe => k_is)
    (case kBe => k_is)
    (case aSp => k_is)
    (case lSp => k_is)
    (case cSp => k_is)
    (case kSp => k_is)
    (case aLt => k_is)
    (case lLt => k_is)
    (case cLt => k_is)
    (case kLt => k_is)
    (case aLo => k_is)
    (case lLo => k_is)
    (case cLo => k_is)
    (case kLo => k_is)
    (case aNu => k_is)
    (case lNu => k_is)
    (case cNu => k_is)
    (case kNu => k_is)
    (case aMe => k_is)
    (case lMe => k_is)
    (case cMe => k_is)
    (case kMe => k_is)
    (case aRi => k_is)
    (case lRi => k_is)
    (case cRi => k_is)
    (case kRi => k_is)
    (case aIsT => k_is)
    (case lIsT => k_is)
    (case cIsT => k_is)
    (case kIsT => k_is)
    (case aIsP => k_is)
    (case lIsP => k_is)
    (case cIsP => k_is)
    (case kIsP => k_is)
    (case aIsL => k_is)
    (case lIsL => k_is)
    (case cIsL => k_is)
    (case kIsL => k_is)
    (case aEn => k_is)
    (case lEn => k_is)
    (case cEn => k_is)
    (case kEn => k_is)
    (case aCha => k_is)
    (case lCha => k_is)
    (case cCha => k_is)
    (case kCha => k_is)
    (case aQue => k_is)
    (case lQue => k_is)
    (case cQue => k_is)
    (case kQue => k_is)
    (case aAn => k_is)
    (case lAn => k_is)
    (case cAn => k_is)
    (case kAn => k_is)
    (case pgCS => k_is)
    (case hdCS => k_is)
    (case poCS => k_is)
    (case saCS => k_is)
    (case mkCS => k_is)
    (case kcCS => k_is)
    (case pgCV => k_is)
    (case hdCV => k_is)
    (case poCV => k_is)
    (case saCV => k_is)
    (case mkCV => k_is)
    (case kcCV => k_is)
    (case nS_position => k_is)
    (case nS_deadline => k_is)
    (case nS_loaves => k_is)
    (case nV_departure => k_is)
    (case nV_shops => k_is)
    (case aShI => k_is)
    (case iShI => k_is)
    (case lShI => k_is)
    (case cShI => k_is)
    (case kShI => k_is)
    (case aVaI => k_is)
    (case iVaI => k_is)
    (case lVaI => k_is)
    (case cVaI => k_is)
    (case kVaI => k_is)
    (case aHas => k_is)
    (case iHas => k_is)
    (case lHas => k_is)
    (case cHas => k_is)
    (case kHas => k_is)
    (case aAdd => k_is)
    (case iAdd => k_is)
    (case lAdd => k_is)
    (case cAdd => k_is)
    (case kAdd => k_is)
    (case aRem => k_is)
    (case iRem => k_is)
    (case lRem => k_is)
    (case cRem => k_is)
    (case kRem => k_is)
    (case aPos => k_is)
    (case iPos => k_is)
    (case lPos => k_is)
    (case cPos => k_is)
    (case kPos => k_is)
    (case aDea => k_is)
    (case iDea => k_is)
    (case lDea => k_is)
    (case cDea => k_is)
    (case kDea => k_is)
    (case aLoa => k_is)
    (case iLoa => k_is)
    (case lLoa => k_is)
    (case cLoa => k_is)
    (case kLoa => k_is)
    (case aDep => k_is)
    (case iDep => k_is)
    (case lDep => k_is)
    (case cDep => k_is)
    (case kDep => k_is)
    (case aAls => k_is)
    (case iAls => k_is)
    (case lAls => k_is)
    (case cAls => k_is)
    (case kAls => k_is)
    (case aAll => k_is)
    (case iAll => k_is)
    (case lAll => k_is)
    (case cAll => k_is)
    (case kAll => k_is)
    (case aEt => k_is)
    (case iEt => k_is)
    (case lEt => k_is)
    (case cEt => k_is)
    (case kEt => k_is)
    (case aEf => k_is)
    (case iEf => k_is)
    (case lEf => k_is)
    (case cEf => k_is)
    (case kEf => k_is)
    (case aBr => k_is)
    (case iBr => k_is)
    (case lBr => k_is)
    (case cBr => k_is)
    (case kBr => k_is)
    (case aIr => k_is)
    (case iIr => k_is)
    (case lIr => k_is)
    (case cIr => k_is)
    (case kIr => k_is)
    (case aAt => k_is)
    (case iAt => k_is)
    (case lAt => k_is)
    (case cAt => k_is)
    (case kAt => k_is)
    (case aCh => k_is)
    (case iCh => k_is)
    (case lCh => k_is)
    (case cCh => k_is)
    (case kCh => k_is)
    (case aMl => k_is)
    (case iMl => k_is)
    (case lMl => k_is)
    (case cMl => k_is)
    (case kMl => k_is)
    (case aEo => k_is)
    (case iEo => k_is)
    (case lEo => k_is)
    (case cEo => k_is)
    (case kEo => k_is)
    (case aLd => k_is)
    (case iLd => k_is)
    (case lLd => k_is)
    (case cLd => k_is)
    (case kLd => k_is)
    (case aRt => k_is)
    (case iRt => k_is)
    (case lRt => k_is)
    (case cRt => k_is)
    (case kRt => k_is)
    (case aEw => k_is)
    (case iEw => k_is)
    (case lEw => k_is)
    (case cEw => k_is)
    (case kEw => k_is)
    (case aDe => k_is)
    (case iDe => k_is)
    (case lDe => k_is)
    (case cDe => k_is)
    (case kDe => k_is)
    (case n0 => k_is)
    (case n1 => k_is)
    (case n2 => k_is)
    (case n3 => k_is)
    (case n4 => k_is)
    (case n5 => k_is)
    (case n6 => k_is)
    (case n7 => k_is)
    (case n8 => k_is)
    (case n9 => k_is)
    (case n10 => k_is)
    (case n11 => k_is)
    (case n12 => k_is)
    (case n13 => k_is)
    (case n14 => k_is)
    (case n15 => k_is)
    (case n16 => k_is)
    (case n17 => k_is)
    (case n18 => k_is)
    (case n19 => k_is)
    (case n20 => k_is)
    (case n21 => k_is)
    (case n22 => k_is)
    (case n23 => k_is)
    (case n24 => k_is)
    (case z_abs => k_is)
    (case z_len => k_is)
    (case z_range => k_is)
    (case z_list => k_is)
    (case z_sorted => k_is)
    (case z_zip => k_is)
    (case z_min => k_is)
    (case z_max => k_is)
    (case z_sum => k_is)
    (case z_all => k_is)
    (case z_set => k_is)
    (case aW => k_is)
    (case lW => k_is)
    (case sW => exact (by decide))
    (case vW => exact .cons ⟨_, rfl⟩ (.cons ⟨_, rfl⟩ (.cons ⟨_, rfl⟩ (.cons ⟨_, rfl⟩ (.cons ⟨_, rfl⟩ (.cons ⟨_, rfl⟩ (.cons ⟨_, rfl⟩ (.cons ⟨_, rfl⟩ (.cons ⟨_, rfl⟩ (.cons ⟨_, rfl⟩ (.cons ⟨_, rfl⟩ (.cons ⟨_, rfl⟩ (.cons ⟨_, rfl⟩ (.cons ⟨_, rfl⟩ (.cons ⟨_, rfl⟩ (.cons ⟨_, rfl⟩ (.cons ⟨_, rfl⟩ (.nil))))))))))))))))))
    (case aR => k_is)
    (case lR => k_is)
    (case sR => exact (by decide))
    (case vR => exact .cons ⟨_, rfl⟩ (.cons ⟨_, rfl⟩ (.nil)))
