import PyProof.Rows.All
import Wide.All
import OpenK.AllK
import Wide.FinOn
import Open.SpecLaws
import KE.OsGo
import KE.KNest
import KE.SortKeyHeap
import HandS.ForMost
import HandS.Spec
import HandS.Conv
import HandS.Zip
import HandS.Lambda
import HandS.Nested
import PySem.Challenge.RW_freshlots_s06_check_plan
set_option maxRecDepth 100000
set_option maxHeartbeats 2000000
/-! The mathematics: the program's own functions over lists of natural numbers, and that they are the specification's -/
namespace Fl
open Ks594 (Lot Stock)
def usesIn (l : Lot) (w : Nat) : Bool := decide (l.first ≤ w) && decide (w ≤ l.last)
/-! ### one week -/
/-- one lot is drawn on: the amounts taken so far, the demand that is still unmet -/
def draw (left : List Nat) (st : List Nat × Nat) (i : Nat) : List Nat × Nat := (st.1.set i (min st.2 (left.getD i 0)), st.2 - min st.2 (left.getD i 0))
def week (wanted : Nat) (usable left : List Nat) : List Nat × Nat := usable.foldl (draw left) (List.replicate left.length 0, wanted)
def sub (left amounts : List Nat) : List Nat := List.zipWith (fun b a => b - a) left amounts
theorem sub_len {left am : List Nat} (h : am.length = left.length) : (sub left am).length = left.length := by
  unfold sub; rw [List.length_zipWith, h, Nat.min_self]
theorem sub_get {left am : List Nat} (h : am.length = left.length) (i : Nat) : (sub left am).getD i 0 = left.getD i 0 - am.getD i 0 := by
  unfold sub
  simp only [List.getD_eq_getElem?_getD, List.getElem?_zipWith]
  by_cases hi : i < left.length
  · rw [List.getElem?_eq_getElem hi, List.getElem?_eq_getElem (h ▸ hi)]; rfl
  · rw [List.getElem?_eq_none (by omega), List.getElem?_eq_none (by omega)]; rfl
theorem sub_set {left am : List Nat} (h : am.length = left.length) (i a : Nat) : sub left (am.set i a) = (sub left am).set i (left.getD i 0 - a) := by
  unfold sub
  apply List.ext_getElem?
  intro j
  rw [List.getElem?_zipWith, List.getElem?_set, List.getElem?_set, List.length_zipWith, List.getElem?_zipWith]
  by_cases hij : i = j
  · subst hij
    by_cases hi : i < left.length
    · simp only [h, hi, Nat.min_self, if_true, List.getD_eq_getElem?_getD, List.getElem?_eq_getElem hi, Option.getD_some]
    · have h1 : left[i]? = none := List.getElem?_eq_none (by omega)
      simp only [h, hi, Nat.min_self, if_false, h1, if_true]
  · simp only [if_neg hij]
theorem set_same {l : List Nat} {i : Nat} (h : i < l.length) : l.set i (l.getD i 0) = l := by
  rw [List.getD_eq_getElem?_getD, List.getElem?_eq_getElem h, Option.getD_some, List.set_getElem_self]
theorem getD_set_ne {l : List Nat} {i j a : Nat} (h : i ≠ j) : (l.set i a).getD j 0 = l.getD j 0 := by
  simp only [List.getD_eq_getElem?_getD, List.getElem?_set, if_neg h]
theorem getD_set_same {l : List Nat} {i a : Nat} (h : i < l.length) : (l.set i a).getD i 0 = a := by
  simp [List.getD_eq_getElem?_getD, h]
theorem sum_set : ∀ {l : List Nat} {i a : Nat}, i < l.length → l.getD i 0 = 0 → (l.set i a).sum = l.sum + a
  | [], _, _, h, _ => absurd h (by simp)
  | x :: r, 0, a, _, h0 => by
    have e : x = 0 := h0
    subst e
    show (a :: r).sum = (0 :: r).sum + a
    rw [List.sum_cons, List.sum_cons]; omega
  | x :: r, i + 1, a, h, h0 => by
    show (x :: r.set i a).sum = (x :: r).sum + a
    rw [List.sum_cons, List.sum_cons, sum_set (l := r) (i := i) (Nat.lt_of_succ_lt_succ h) h0]; omega
theorem sum_rep (n : Nat) : (List.replicate n 0).sum = 0 := by
  induction n with
  | zero => rfl
  | succ n ih => rw [List.replicate_succ, List.sum_cons, ih]
/-- amounts that are nowhere more than what is left -/
def Under (left am : List Nat) : Prop := ∀ i, am.getD i 0 ≤ left.getD i 0
theorem issue_gen (s : Stock) (w : Nat) (left : List Nat) : ∀ (order am : List Nat) (u : Nat), order.Nodup → (∀ i ∈ order, i < left.length) → am.length = left.length → Under left am → (∀ i ∈ order, am.getD i 0 = 0) →
    Ks594.issueWeek s w order (sub left am) u = (sub left ((order.filter (Ks594.isUsable s w)).foldl (draw left) (am, u)).1, ((order.filter (Ks594.isUsable s w)).foldl (draw left) (am, u)).2)
    ∧ ((order.filter (Ks594.isUsable s w)).foldl (draw left) (am, u)).2 + ((order.filter (Ks594.isUsable s w)).foldl (draw left) (am, u)).1.sum = u + am.sum
    ∧ ((order.filter (Ks594.isUsable s w)).foldl (draw left) (am, u)).1.length = left.length
    ∧ Under left ((order.filter (Ks594.isUsable s w)).foldl (draw left) (am, u)).1
  | [], am, u, _, _, hl, hu, _ => ⟨rfl, rfl, hl, hu⟩
  | i :: rest, am, u, nd, hb, hl, hu, h0 => by
    have hi : i < left.length := hb i (List.mem_cons_self ..)
    have z0 : am.getD i 0 = 0 := h0 i (List.mem_cons_self ..)
    have nd2 := (List.nodup_cons.mp nd)
    have hb2 : ∀ j ∈ rest, j < left.length := fun j hj => hb j (List.mem_cons_of_mem _ hj)
    have ri : (sub left am).getD i 0 = left.getD i 0 := by rw [sub_get hl, z0, Nat.sub_zero]
    show Ks594.issueWeek s w rest ((sub left am).set i ((sub left am).getD i 0 - (if Ks594.isUsable s w i then min ((sub left am).getD i 0) u else 0))) (u - (if Ks594.isUsable s w i then min ((sub left am).getD i 0) u else 0)) = _ ∧ _
    cases c : Ks594.isUsable s w i with
    | false =>
      rw [List.filter_cons_of_neg (by rw [c]; exact Bool.false_ne_true), if_neg Bool.false_ne_true, Nat.sub_zero, Nat.sub_zero, set_same (by rw [sub_len hl]; exact hi)]
      exact issue_gen s w left rest am u nd2.2 hb2 hl hu fun j hj => h0 j (List.mem_cons_of_mem _ hj)
    | true =>
      rw [List.filter_cons_of_pos c, if_pos rfl, ri, Nat.min_comm (left.getD i 0) u, List.foldl_cons, ← sub_set hl]
      have hl2 : (am.set i (min u (left.getD i 0))).length = left.length := by rw [List.length_set]; exact hl
      have hu2 : Under left (am.set i (min u (left.getD i 0))) := fun j => by
        by_cases hij : i = j
        · subst hij
          rw [getD_set_same (by omega)]; exact Nat.min_le_right ..
        · rw [getD_set_ne hij]; exact hu j
      have ih := issue_gen s w left rest (am.set i (min u (left.getD i 0))) (u - min u (left.getD i 0)) nd2.2 hb2 hl2 hu2 fun j hj => by
        rw [getD_set_ne (fun e : i = j => nd2.1 (by rw [e]; exact hj))]; exact h0 j (List.mem_cons_of_mem _ hj)
      have hs : (am.set i (min u (left.getD i 0))).sum = am.sum + min u (left.getD i 0) := sum_set (by omega) z0
      have hle : min u (left.getD i 0) ≤ u := Nat.min_le_left ..
      refine ⟨ih.1, ?_, ih.2.2.1, ih.2.2.2⟩
      have e := ih.2.1
      rw [hs] at e
      show (List.foldl (draw left) (am.set i (min u (left.getD i 0)), u - min u (left.getD i 0)) _).2 + (List.foldl (draw left) (am.set i (min u (left.getD i 0)), u - min u (left.getD i 0)) _).1.sum = _
      omega
theorem sub_zero (left : List Nat) : sub left (List.replicate left.length 0) = left := by
  apply List.ext_getElem?
  intro i
  unfold sub
  rw [List.getElem?_zipWith]
  by_cases hi : i < left.length
  · rw [List.getElem?_eq_getElem hi, List.getElem?_replicate, if_pos hi]; rfl
  · rw [List.getElem?_eq_none (by omega)]
theorem rep_get (n i : Nat) : (List.replicate n 0).getD i 0 = 0 := by
  rw [List.getD_eq_getElem?_getD, List.getElem?_replicate]; split <;> rfl
/-- what is taken in a week -/
def taken (s : Stock) (order : List Nat) (w : Nat) (left : List Nat) (d : Nat) : List Nat := (week d (order.filter (Ks594.isUsable s w)) left).1
structure Taken (left : List Nat) (d : Nat) (am : List Nat) : Prop where
  len : am.length = left.length
  under : Under left am
  sum : am.sum ≤ d
theorem issue_week (s : Stock) (w : Nat) (left order : List Nat) (d : Nat) (nd : order.Nodup) (hb : ∀ i ∈ order, i < left.length) :
    Ks594.issueWeek s w order left d = (sub left (taken s order w left d), d - (taken s order w left d).sum) ∧ Taken left d (taken s order w left d) := by
  have h := issue_gen s w left order (List.replicate left.length 0) d nd hb List.length_replicate (fun i => by rw [rep_get]; exact Nat.zero_le _) (fun i _ => rep_get _ _)
  rw [sub_zero, sum_rep] at h
  have e1 := h.1
  have e2 := h.2.1
  have e3 := h.2.2.1
  have e4 := h.2.2.2
  refine ⟨?_, e3, e4, ?_⟩
  · rw [e1]
    refine Prod.ext rfl ?_
    show _ = d - (week d (order.filter (Ks594.isUsable s w)) left).1.sum
    unfold week
    dsimp only
    omega
  · show (week d (order.filter (Ks594.isUsable s w)) left).1.sum ≤ d
    unfold week
    omega
/-! ### all weeks -/
/-- one week of the loop: the week's number, what is left, what was taken -/
def turn (s : Stock) (order : List Nat) (st : Nat × List Nat × List (List Nat)) (d : Nat) : Nat × List Nat × List (List Nat) :=
  (st.1 + 1, sub st.2.1 (taken s order st.1 st.2.1 d), st.2.2 ++ [taken s order st.1 st.2.1 d])
def run (s : Stock) (order : List Nat) (left : List Nat) (ds : List Nat) : Nat × List Nat × List (List Nat) := ds.foldl (turn s order) (0, left, [])
/-- the outcome of each week, in the program's words -/
def outs (s : Stock) (order : List Nat) : Nat → List Nat → List Nat → List (List Nat × Nat)
  | _, _, [] => []
  | w, left, d :: r => (sub left (taken s order w left d), d - (taken s order w left d).sum) :: outs s order (w + 1) (sub left (taken s order w left d)) r
theorem weeks_outs (s : Stock) (rule : Nat) (nd : (Ks594.issueOrder s rule).Nodup) : ∀ (r : List Nat) (w : Nat) (left : List Nat), (∀ i ∈ Ks594.issueOrder s rule, i < left.length) → (∀ k d, r[k]? = some d → s.demand.getD (w + k) 0 = d) →
    Ks594.issueWeeks s rule r.length w left = outs s (Ks594.issueOrder s rule) w left r
  | [], _, _, _, _ => rfl
  | d :: r, w, left, hb, hd => by
    have e : s.demand.getD w 0 = d := hd 0 d rfl
    have h := issue_week s w left (Ks594.issueOrder s rule) d nd hb
    show Ks594.issueWeek s w (Ks594.issueOrder s rule) left (s.demand.getD w 0) :: Ks594.issueWeeks s rule r.length (w + 1) (Ks594.issueWeek s w (Ks594.issueOrder s rule) left (s.demand.getD w 0)).1 = _
    rw [e, h.1]
    show _ = (sub left (taken s _ w left d), d - (taken s _ w left d).sum) :: _
    rw [weeks_outs s rule nd r (w + 1) _ (fun i hi => by rw [sub_len h.2.len]; exact hb i hi) (fun k d' hk => by
      have := hd (k + 1) d' (by simpa using hk)
      rw [← this]; congr 1; omega)]
/-- the amounts of each week -/
def ams (s : Stock) (order : List Nat) : Nat → List Nat → List Nat → List (List Nat)
  | _, _, [] => []
  | w, left, d :: r => taken s order w left d :: ams s order (w + 1) (sub left (taken s order w left d)) r
/-- what is left behind some weeks -/
def leftAfter (s : Stock) (order : List Nat) : Nat → List Nat → List Nat → List Nat
  | _, left, [] => left
  | w, left, d :: r => leftAfter s order (w + 1) (sub left (taken s order w left d)) r
theorem run_gen (s : Stock) (order : List Nat) : ∀ (r : List Nat) (w : Nat) (left : List Nat) (acc : List (List Nat)), r.foldl (turn s order) (w, left, acc) = (w + r.length, leftAfter s order w left r, acc ++ ams s order w left r)
  | [], w, left, acc => by simp [leftAfter, ams]
  | d :: r, w, left, acc => by
    rw [List.foldl_cons]
    show List.foldl (turn s order) (w + 1, sub left (taken s order w left d), acc ++ [taken s order w left d]) r = _
    rw [run_gen s order r]
    refine Prod.ext ?_ (Prod.ext rfl ?_)
    · show w + 1 + r.length = w + (r.length + 1); omega
    · show acc ++ [taken s order w left d] ++ ams s order (w + 1) _ r = acc ++ (taken s order w left d :: ams s order (w + 1) _ r)
      rw [List.append_assoc]; rfl
theorem run_eq (s : Stock) (order left ds : List Nat) : run s order left ds = (ds.length, leftAfter s order 0 left ds, ams s order 0 left ds) := by
  unfold run
  rw [run_gen]; simp
theorem outs_short (s : Stock) (order : List Nat) : ∀ (r : List Nat) (w : Nat) (left : List Nat), (outs s order w left r).map Prod.snd = List.zipWith (fun d am => d - am.sum) r (ams s order w left r)
  | [], _, _ => rfl
  | d :: r, w, left => by
    show (d - (taken s order w left d).sum) :: (outs s order (w + 1) _ r).map Prod.snd = (d - (taken s order w left d).sum) :: List.zipWith _ r (ams s order (w + 1) _ r)
    rw [outs_short]
theorem outs_last (s : Stock) (order : List Nat) : ∀ (r : List Nat) (w : Nat) (left : List Nat), (((outs s order w left r).getLast?).map Prod.fst).getD left = leftAfter s order w left r
  | [], _, _ => rfl
  | [d], w, left => rfl
  | d :: e :: r, w, left => by
    have ih := outs_last s order (e :: r) (w + 1) (sub left (taken s order w left d))
    show ((((sub left (taken s order w left d), _) :: outs s order (w + 1) _ (e :: r)).getLast?).map Prod.fst).getD left = leftAfter s order (w + 1) _ (e :: r)
    rw [← ih]
    show ((((sub left (taken s order w left d), _) :: (_ :: _)).getLast?).map Prod.fst).getD left = _
    rw [List.getLast?_cons_cons]
    show (((outs s order (w + 1) _ (e :: r)).getLast?).map Prod.fst).getD left = _
    cases h : (outs s order (w + 1) (sub left (taken s order w left d)) (e :: r)).getLast? with
    | none =>
      rw [List.getLast?_eq_none_iff] at h
      cases h
    | some x => rfl
/-! ### the order -/
def keyOf (s : Stock) (rule i : Nat) : Int := if rule = 0 then ((Ks594.lotAt s i).last : Int) else -((Ks594.lotAt s i).last : Int)
def LeK (s : Stock) (rule i j : Nat) : Prop := keyOf s rule i < keyOf s rule j ∨ (keyOf s rule i = keyOf s rule j ∧ i ≤ j)
theorem pref_iff (s : Stock) (rule i j : Nat) : Ks594.isPreferred s rule i j = true ↔ keyOf s rule i < keyOf s rule j := by
  unfold Ks594.isPreferred keyOf
  split
  · rw [decide_eq_true_iff]; omega
  · rw [decide_eq_true_iff]; omega
theorem cond_le {s : Stock} {rule i j : Nat} (h : (Ks594.isPreferred s rule i j || (!Ks594.isPreferred s rule j i && decide (i < j))) = true) : LeK s rule i j := by
  rw [Bool.or_eq_true, Bool.and_eq_true, Bool.not_eq_true', decide_eq_true_iff] at h
  rcases h with h | ⟨h1, h2⟩
  · exact .inl ((pref_iff ..).mp h)
  · have h3 : ¬ keyOf s rule j < keyOf s rule i := fun z => by
      rw [(pref_iff ..).mpr z] at h1; cases h1
    unfold LeK; omega
theorem cond_not {s : Stock} {rule i j : Nat} (h : ¬ (Ks594.isPreferred s rule i j || (!Ks594.isPreferred s rule j i && decide (i < j))) = true) : LeK s rule j i := by
  rw [Bool.or_eq_true, Bool.and_eq_true, Bool.not_eq_true', decide_eq_true_iff, not_or] at h
  have h1 : ¬ keyOf s rule i < keyOf s rule j := fun z => h.1 ((pref_iff ..).mpr z)
  by_cases h2 : keyOf s rule j < keyOf s rule i
  · exact .inl h2
  · have h3 : ¬ i < j := fun z => h.2 ⟨by
      cases e : Ks594.isPreferred s rule j i with
      | false => rfl
      | true => exact absurd ((pref_iff ..).mp e) h2, z⟩
    unfold LeK; omega
theorem LeK.trans {s : Stock} {rule i j k : Nat} (h1 : LeK s rule i j) (h2 : LeK s rule j k) : LeK s rule i k := by
  unfold LeK at *; omega
theorem ins_perm (s : Stock) (rule i : Nat) : ∀ l, (Ks594.insertByPreference s rule i l).Perm (i :: l)
  | [] => List.Perm.refl _
  | j :: r => by
    show (if (Ks594.isPreferred s rule i j || (!Ks594.isPreferred s rule j i && decide (i < j))) = true then i :: j :: r else j :: Ks594.insertByPreference s rule i r).Perm _
    split
    · exact List.Perm.refl _
    · exact ((ins_perm s rule i r).cons j).trans (List.Perm.swap i j r)
theorem ins_sorted (s : Stock) (rule i : Nat) : ∀ l, l.Pairwise (LeK s rule) → (Ks594.insertByPreference s rule i l).Pairwise (LeK s rule)
  | [], _ => List.pairwise_singleton ..
  | j :: r, h => by
    have hp := List.pairwise_cons.mp h
    show (if (Ks594.isPreferred s rule i j || (!Ks594.isPreferred s rule j i && decide (i < j))) = true then i :: j :: r else j :: Ks594.insertByPreference s rule i r).Pairwise _
    split
    · rename_i c
      have c1 := cond_le c
      refine List.pairwise_cons.mpr ⟨fun k hk => ?_, h⟩
      rcases List.mem_cons.mp hk with e | e
      · rw [e]; exact c1
      · exact c1.trans (hp.1 k e)
    · rename_i c
      have c1 := cond_not c
      refine List.pairwise_cons.mpr ⟨fun k hk => ?_, ins_sorted s rule i r hp.2⟩
      have hk2 := (ins_perm s rule i r).mem_iff.mp hk
      rcases List.mem_cons.mp hk2 with e | e
      · rw [e]; exact c1
      · exact hp.1 k e
theorem fold_perm (s : Stock) (rule : Nat) : ∀ l : List Nat, (l.foldr (Ks594.insertByPreference s rule) []).Perm l
  | [] => List.Perm.refl _
  | i :: r => (ins_perm s rule i _).trans ((fold_perm s rule r).cons i)
theorem fold_sorted (s : Stock) (rule : Nat) : ∀ l : List Nat, (l.foldr (Ks594.insertByPreference s rule) []).Pairwise (LeK s rule)
  | [] => List.Pairwise.nil
  | i :: r => ins_sorted s rule i _ (fold_sorted s rule r)
theorem order_perm (s : Stock) (rule : Nat) : (Ks594.issueOrder s rule).Perm (List.range s.lots.length) := fold_perm s rule _
theorem order_nodup (s : Stock) (rule : Nat) : (Ks594.issueOrder s rule).Nodup := (order_perm s rule).nodup_iff.mpr List.nodup_range
theorem order_lt (s : Stock) (rule : Nat) : ∀ i ∈ Ks594.issueOrder s rule, i < s.lots.length := fun i hi => List.mem_range.mp ((order_perm s rule).mem_iff.mp hi)
theorem eq_of_perm {s : Stock} {rule : Nat} : ∀ {l m : List Nat}, l.Pairwise (LeK s rule) → m.Pairwise (LeK s rule) → l.Perm m → l = m
  | [], m, _, _, h => (List.nil_perm.mp h).symm
  | a :: l, [], _, _, h => absurd h (by simp)
  | a :: l, b :: m, hl, hm, h => by
    have hl' := List.pairwise_cons.mp hl
    have hm' := List.pairwise_cons.mp hm
    have h1 : LeK s rule a b := by
      rcases List.mem_cons.mp (h.mem_iff.mpr (List.mem_cons_self ..) : b ∈ a :: l) with e | e
      · rw [e]; unfold LeK; omega
      · exact hl'.1 b e
    have h2 : LeK s rule b a := by
      rcases List.mem_cons.mp (h.mem_iff.mp (List.mem_cons_self ..) : a ∈ b :: m) with e | e
      · rw [e]; unfold LeK; omega
      · exact hm'.1 a e
    have e : a = b := by unfold LeK at h1 h2; omega
    subst e
    rw [eq_of_perm hl'.2 hm'.2 (List.perm_cons a |>.mp h)]
theorem order_sort (s : Stock) (rule : Nat) : (List.range s.lots.length).mergeSort (fun i j => decide (keyOf s rule i < keyOf s rule j ∨ (keyOf s rule i = keyOf s rule j ∧ (i : Int) ≤ (j : Int)))) = Ks594.issueOrder s rule := by
  refine eq_of_perm (s := s) (rule := rule) ?_ (fold_sorted s rule _) ((List.mergeSort_perm ..).trans (order_perm s rule).symm)
  have h := List.pairwise_mergeSort (le := fun i j => decide (keyOf s rule i < keyOf s rule j ∨ (keyOf s rule i = keyOf s rule j ∧ (i : Int) ≤ (j : Int)))) (fun a b c h1 h2 => by
    rw [decide_eq_true_iff] at h1 h2 ⊢; omega) (fun a b => by
    rw [Bool.or_eq_true, decide_eq_true_iff, decide_eq_true_iff]; omega) (List.range s.lots.length)
  refine h.imp fun {i j} c => ?_
  rw [decide_eq_true_iff] at c
  unfold LeK; omega
/-! ### reading the arguments -/
def okTriple (f l a : Nat) : Bool := decide ((f ≤ l ∧ l ≤ 99) ∧ a ≤ 99)
def okTriples : List Nat → Bool
  | [] => true
  | f :: l :: a :: r => okTriple f l a && okTriples r
  | _ => false
def lotsOf : List Nat → List Lot
  | f :: l :: a :: r => ⟨f, l, a⟩ :: lotsOf r
  | _ => []
theorem parse_lots : ∀ xs : List Nat, Ks594.parseLots xs = if okTriples xs = true then some (lotsOf xs) else none
  | [] => rfl
  | [_] => rfl
  | [_, _] => rfl
  | f :: l :: a :: r => by
    show (if l < f ∨ 99 < l ∨ 99 < a then none else (Ks594.parseLots r).map fun lots => (⟨f, l, a⟩ : Lot) :: lots) = if (okTriple f l a && okTriples r) = true then some ((⟨f, l, a⟩ : Lot) :: lotsOf r) else none
    rw [parse_lots r]
    unfold okTriple
    by_cases h : l < f ∨ 99 < l ∨ 99 < a
    · rw [if_pos h]
      have h' : ¬ ((f ≤ l ∧ l ≤ 99) ∧ a ≤ 99) := by omega
      rw [decide_eq_false h', Bool.false_and, if_neg Bool.false_ne_true]
    · rw [if_neg h]
      have h' : (f ≤ l ∧ l ≤ 99) ∧ a ≤ 99 := by omega
      rw [decide_eq_true h', Bool.true_and]
      split <;> rfl
theorem lots_len : ∀ xs : List Nat, (lotsOf xs).length = xs.length / 3
  | [] => rfl
  | [_] => by show 0 = 1 / 3; decide
  | [_, _] => by show 0 = 2 / 3; decide
  | f :: l :: a :: r => by
    show (lotsOf r).length + 1 = (r.length + 1 + 1 + 1) / 3
    rw [lots_len r]; omega
theorem ok_mod : ∀ xs : List Nat, okTriples xs = true → xs.length % 3 = 0
  | [], _ => rfl
  | [_], h => by cases h
  | [_, _], h => by cases h
  | f :: l :: a :: r, h => by
    have := ok_mod r (Bool.and_eq_true_iff.mp (show (okTriple f l a && okTriples r) = true from h)).2
    show (r.length + 1 + 1 + 1) % 3 = 0
    omega
theorem lots_get : ∀ (xs : List Nat) (k : Nat), 3 * k + 2 < xs.length → (lotsOf xs)[k]? = some ⟨xs.getD (3 * k) 0, xs.getD (3 * k + 1) 0, xs.getD (3 * k + 2) 0⟩
  | [], k, hk => absurd hk (by simp)
  | [_], k, h => absurd (show 3 * k + 2 < 1 from h) (by omega)
  | [_, _], k, h => absurd (show 3 * k + 2 < 2 from h) (by omega)
  | f :: l :: a :: r, 0, _ => rfl
  | f :: l :: a :: r, k + 1, h => by
    have h2 : 3 * k + 2 < r.length := by
      have : 3 * (k + 1) + 2 < r.length + 1 + 1 + 1 := h
      omega
    show (lotsOf r)[k]? = _
    rw [lots_get r k h2]
    show some (⟨r.getD (3 * k) 0, r.getD (3 * k + 1) 0, r.getD (3 * k + 2) 0⟩ : Lot) = some ⟨(f :: l :: a :: r).getD (3 * k + 3) 0, (f :: l :: a :: r).getD (3 * k + 4) 0, (f :: l :: a :: r).getD (3 * k + 5) 0⟩
    rfl
theorem lots_bound : ∀ (xs : List Nat), okTriples xs = true → ∀ l ∈ lotsOf xs, l.first ≤ l.last ∧ l.last ≤ 99 ∧ l.amount ≤ 99
  | [], _, l, h => absurd h (by simp [lotsOf])
  | [_], _, l, h => absurd h (by simp [lotsOf])
  | [_, _], _, l, h => absurd h (by simp [lotsOf])
  | f :: l :: a :: r, o, x, h => by
    have o2 := Bool.and_eq_true_iff.mp (show (okTriple f l a && okTriples r) = true from o)
    rcases List.mem_cons.mp (show x ∈ (⟨f, l, a⟩ : Lot) :: lotsOf r from h) with e | e
    · subst e
      have := of_decide_eq_true o2.1
      show f ≤ l ∧ l ≤ 99 ∧ a ≤ 99
      omega
    · exact lots_bound r o2.2 x e
theorem ok_drop {xs : List Nat} {k : Nat} (h : k + 2 < xs.length) : okTriples (xs.drop k) = (okTriple (xs.getD k 0) (xs.getD (k + 1) 0) (xs.getD (k + 2) 0) && okTriples (xs.drop (k + 3))) := by
  have e : xs.drop k = xs[k] :: xs[k + 1] :: xs[k + 2] :: xs.drop (k + 3) := by
    rw [List.drop_eq_getElem_cons (by omega), List.drop_eq_getElem_cons (i := k + 1) (by omega), List.drop_eq_getElem_cons (i := k + 1 + 1) (by omega)]
  rw [e]
  simp only [List.getD_eq_getElem?_getD, List.getElem?_eq_getElem (show k < xs.length by omega), List.getElem?_eq_getElem (show k + 1 < xs.length by omega), List.getElem?_eq_getElem h, Option.getD_some]
  rfl
def lotsOk (xs : List Nat) : Bool := (decide (xs.length % 3 = 0) && decide (xs.length ≤ 18)) && okTriples xs
def demandOk (ds : List Nat) : Bool := decide (1 ≤ ds.length) && decide (ds.length ≤ 10) && ds.all fun d => decide (d ≤ 99)
def stockOk (xs ds : List Nat) : Bool := lotsOk xs && demandOk ds
theorem parse_stock (xs ds : List Nat) : Ks594.parseStock xs ds = if stockOk xs ds = true then some ⟨lotsOf xs, ds⟩ else none := by
  unfold Ks594.parseStock
  rw [parse_lots]
  by_cases h : okTriples xs = true
  · rw [if_pos h]
    dsimp only
    have hm := ok_mod xs h
    have hl := lots_len xs
    have ha : ((ds.any fun x => decide (99 < x)) = true) ↔ ¬ (ds.all fun d => decide (d ≤ 99)) = true := by
      rw [List.any_eq_true, List.all_eq_true]
      constructor
      · rintro ⟨x, hx, h1⟩ h2
        have := of_decide_eq_true (h2 x hx)
        have := of_decide_eq_true h1
        omega
      · intro h2
        refine Classical.byContradiction fun h3 => h2 fun x hx => decide_eq_true ?_
        refine Classical.byContradiction fun h4 => h3 ⟨x, hx, decide_eq_true (by omega)⟩
    by_cases c : stockOk xs ds = true
    · rw [if_pos c, if_neg]
      unfold stockOk lotsOk demandOk at c
      rw [Bool.and_eq_true, Bool.and_eq_true, Bool.and_eq_true, Bool.and_eq_true, Bool.and_eq_true, decide_eq_true_iff, decide_eq_true_iff, decide_eq_true_iff, decide_eq_true_iff] at c
      rw [hl, ha]
      show ¬ (6 < xs.length / 3 ∨ ds.length < 1 ∨ 10 < ds.length ∨ _)
      rintro (z | z | z | z)
      · omega
      · omega
      · omega
      · exact z c.2.2
    · rw [if_neg c, if_pos]
      rw [hl, ha]
      show 6 < xs.length / 3 ∨ ds.length < 1 ∨ 10 < ds.length ∨ _
      refine Classical.byContradiction fun z => c ?_
      rw [not_or, not_or, not_or] at z
      unfold stockOk lotsOk demandOk
      rw [Bool.and_eq_true, Bool.and_eq_true, Bool.and_eq_true, Bool.and_eq_true, Bool.and_eq_true, decide_eq_true_iff, decide_eq_true_iff, decide_eq_true_iff, decide_eq_true_iff]
      refine ⟨⟨⟨hm, by omega⟩, h⟩, ⟨by omega, by omega⟩, Classical.byContradiction fun q => z.2.2.2 q⟩
  · rw [if_neg h, if_neg]
    intro c
    unfold stockOk lotsOk at c
    rw [Bool.and_eq_true, Bool.and_eq_true] at c
    exact h c.1.2
/-! ### the answers -/
theorem toNat_map (l : List Nat) : (l.map Int.ofNat).map Int.toNat = l := by
  rw [List.map_map]
  conv => { rhs; rw [← List.map_id l] }
  rfl
/-- what all weeks give, in the program's words -/
def amsOf (xs ds : List Nat) (r : Nat) : List (List Nat) := ams ⟨lotsOf xs, ds⟩ (Ks594.issueOrder ⟨lotsOf xs, ds⟩ r) 0 ((lotsOf xs).map Lot.amount) ds
def leftOf (xs ds : List Nat) (r : Nat) : List Nat := leftAfter ⟨lotsOf xs, ds⟩ (Ks594.issueOrder ⟨lotsOf xs, ds⟩ r) 0 ((lotsOf xs).map Lot.amount) ds
theorem outcomes_eq (xs ds : List Nat) (r : Nat) : Ks594.outcomes ⟨lotsOf xs, ds⟩ r = outs ⟨lotsOf xs, ds⟩ (Ks594.issueOrder ⟨lotsOf xs, ds⟩ r) 0 ((lotsOf xs).map Lot.amount) ds := by
  unfold Ks594.outcomes Ks594.weekCount
  refine weeks_outs _ r (order_nodup _ r) ds 0 _ (fun i hi => ?_) fun k d hk => ?_
  · rw [List.length_map]; exact order_lt _ r i hi
  · show ds.getD (0 + k) 0 = d
    rw [Nat.zero_add, List.getD_eq_getElem?_getD, hk]; rfl
def shorts (xs ds : List Nat) (r : Nat) : List Nat := List.zipWith (fun d am => d - am.sum) ds (amsOf xs ds r)
theorem shortages_eq (xs ds : List Nat) (r : Nat) : Ks594.shortages ⟨lotsOf xs, ds⟩ r = shorts xs ds r := by
  unfold Ks594.shortages
  rw [outcomes_eq, outs_short]; rfl
theorem remaining_eq (xs ds : List Nat) (r : Nat) : Ks594.remainingAmounts ⟨lotsOf xs, ds⟩ r = leftOf xs ds r := by
  unfold Ks594.remainingAmounts
  rw [outcomes_eq, outs_last]; rfl
def badOr (b : Bool) (l : List Int) : List Int := if b = true then l else [-22]
theorem spec_shortages (r : Nat) (xs ds : List Nat) : PyKs594.shortages (Int.ofNat r) (xs.map Int.ofNat) (ds.map Int.ofNat) = badOr (stockOk xs ds && decide (r ≤ 1)) (((shorts xs ds r).sum :: shorts xs ds r).map Int.ofNat) := by
  show Ks594Neutral.integers (Ks594.withRule r ((xs.map Int.ofNat).map Int.toNat) ((ds.map Int.ofNat).map Int.toNat) _) = _
  rw [toNat_map, toNat_map]
  unfold Ks594.withRule Ks594.withStock
  rw [parse_stock]
  unfold badOr
  by_cases c : stockOk xs ds = true
  · rw [if_pos c, c, Bool.true_and]
    dsimp only
    by_cases h : r ≤ 1
    · rw [if_neg (by omega), decide_eq_true h, if_pos rfl, shortages_eq]
      rfl
    · rw [if_pos (by omega), decide_eq_false h, if_neg Bool.false_ne_true]
      rfl
  · rw [if_neg c, Bool.not_eq_true _ |>.mp c, Bool.false_and, if_neg Bool.false_ne_true]
    rfl
def wasteN (xs ds : List Nat) (r : Nat) : Nat := ((List.range (lotsOf xs).length).map fun i => if ((lotsOf xs).getD i ⟨0, 0, 0⟩).last < ds.length then (leftOf xs ds r).getD i 0 else 0).sum
theorem spec_remaining (r : Nat) (xs ds : List Nat) : PyKs594.remaining (Int.ofNat r) (xs.map Int.ofNat) (ds.map Int.ofNat) = badOr (stockOk xs ds && decide (r ≤ 1)) ((wasteN xs ds r :: leftOf xs ds r).map Int.ofNat) := by
  show Ks594Neutral.integers (Ks594.withRule r ((xs.map Int.ofNat).map Int.toNat) ((ds.map Int.ofNat).map Int.toNat) _) = _
  rw [toNat_map, toNat_map]
  unfold Ks594.withRule Ks594.withStock
  rw [parse_stock]
  unfold badOr
  by_cases c : stockOk xs ds = true
  · rw [if_pos c, c, Bool.true_and]
    dsimp only
    by_cases h : r ≤ 1
    · rw [if_neg (by omega), decide_eq_true h, if_pos rfl]
      unfold Ks594.wasteOf
      rw [remaining_eq]
      rfl
    · rw [if_pos (by omega), decide_eq_false h, if_neg Bool.false_ne_true]
      rfl
  · rw [if_neg c, Bool.not_eq_true _ |>.mp c, Bool.false_and, if_neg Bool.false_ne_true]
    rfl
end Fl
set_option maxRecDepth 100000
set_option maxHeartbeats 2000000
/-! One more unit of a lot: the total shortage is the same, or one less (by either rule) -/
namespace Fl
open Ks594 (Lot Stock)
def bump (l : List Nat) (j : Nat) : List Nat := l.set j (l.getD j 0 + 1)
theorem bump_get_same {l : List Nat} {j : Nat} (h : j < l.length) : (bump l j).getD j 0 = l.getD j 0 + 1 := getD_set_same h
theorem bump_get_ne {l : List Nat} {i j : Nat} (h : j ≠ i) : (bump l j).getD i 0 = l.getD i 0 := getD_set_ne h
theorem bump_set_ne {l : List Nat} {i j a : Nat} (h : j ≠ i) : (bump l j).set i a = bump (l.set i a) j := by
  unfold bump
  rw [getD_set_ne (l := l) (Ne.symm h), List.set_comm _ _ h]
theorem bump_set_same {l : List Nat} {j a : Nat} : (bump l j).set j a = l.set j a := by
  unfold bump
  rw [List.set_set]
/-- what two runs of a week, the second with one unit more, come to -/
def Ends1 (o o' : List Nat × Nat) : Prop := (∃ j, j < o.1.length ∧ o'.1 = bump o.1 j ∧ o'.2 = o.2) ∨ (o'.1 = o.1 ∧ o'.2 + 1 = o.2)
theorem step_unfold (s : Stock) (w i : Nat) (rest rem : List Nat) (n : Nat) : Ks594.issueWeek s w (i :: rest) rem n = Ks594.issueWeek s w rest (rem.set i (rem.getD i 0 - (if Ks594.isUsable s w i then min (rem.getD i 0) n else 0))) (n - (if Ks594.isUsable s w i then min (rem.getD i 0) n else 0)) := rfl
theorem week_len' (s : Stock) (w : Nat) : ∀ (order rem : List Nat) (n : Nat), (Ks594.issueWeek s w order rem n).1.length = rem.length
  | [], _, _ => rfl
  | i :: r, rem, n => by
    rw [step_unfold, week_len' s w r, List.length_set]
theorem week_same {s s' : Stock} {w : Nat} (hu : ∀ i, Ks594.isUsable s' w i = Ks594.isUsable s w i) : ∀ (order rem : List Nat) (n : Nat), Ks594.issueWeek s' w order rem n = Ks594.issueWeek s w order rem n
  | [], _, _ => rfl
  | i :: r, rem, n => by
    rw [step_unfold, step_unfold, hu, week_same hu r]
theorem set_getD_self {l : List Nat} {i : Nat} : l.set i (l.getD i 0 - 0) = l := by
  rw [Nat.sub_zero]
  by_cases h : i < l.length
  · exact set_same h
  · rw [List.set_eq_of_length_le (by omega)]
mutual
theorem week_more1 {s s' : Stock} {w : Nat} (hu : ∀ i, Ks594.isUsable s' w i = Ks594.isUsable s w i) : ∀ (order rem : List Nat) (n j : Nat), j < rem.length → Ends1 (Ks594.issueWeek s w order rem n) (Ks594.issueWeek s' w order (bump rem j) n)
  | [], rem, n, j, hj => .inl ⟨j, hj, rfl, rfl⟩
  | i :: r, rem, n, j, hj => by
    rw [step_unfold, step_unfold, hu]
    cases c : Ks594.isUsable s w i with
    | false =>
      simp only [if_false, Bool.false_eq_true]
      rw [set_getD_self, set_getD_self]
      exact week_more1 hu r rem n j hj
    | true =>
      simp only [if_true]
      by_cases hij : j = i
      · subst hij
        rw [bump_get_same hj, bump_set_same]
        by_cases hn : n ≤ rem.getD j 0
        · rw [Nat.min_eq_right hn, Nat.min_eq_right (by omega), Nat.sub_self]
          have e : rem.set j (rem.getD j 0 + 1 - n) = bump (rem.set j (rem.getD j 0 - n)) j := by
            unfold bump
            rw [List.set_set, getD_set_same hj]
            congr 1
            omega
          rw [e]
          exact week_more1 hu r _ 0 j (by rw [List.length_set]; exact hj)
        · rw [Nat.min_eq_left (by omega), Nat.min_eq_left (by omega), Nat.sub_self, Nat.sub_self]
          have e : n - rem.getD j 0 = n - (rem.getD j 0 + 1) + 1 := by omega
          rw [e]
          exact week_less1 hu r _ _
      · rw [bump_get_ne hij, bump_set_ne hij]
        exact week_more1 hu r _ _ j (by rw [List.length_set]; exact hj)
theorem week_less1 {s s' : Stock} {w : Nat} (hu : ∀ i, Ks594.isUsable s' w i = Ks594.isUsable s w i) : ∀ (order rem : List Nat) (n : Nat), Ends1 (Ks594.issueWeek s w order rem (n + 1)) (Ks594.issueWeek s' w order rem n)
  | [], rem, n => .inr ⟨rfl, rfl⟩
  | i :: r, rem, n => by
    rw [step_unfold, step_unfold, hu]
    cases c : Ks594.isUsable s w i with
    | false =>
      simp only [if_false, Bool.false_eq_true]
      rw [set_getD_self]
      exact week_less1 hu r rem n
    | true =>
      simp only [if_true]
      by_cases hn : n + 1 ≤ rem.getD i 0
      · rw [Nat.min_eq_right hn, Nat.min_eq_right (by omega), Nat.sub_self, Nat.sub_self]
        have hi : i < rem.length := by
          by_cases h : i < rem.length
          · exact h
          · rw [List.getD_eq_getElem?_getD, List.getElem?_eq_none (by omega)] at hn
            have : n + 1 ≤ 0 := hn
            omega
        have e : rem.set i (rem.getD i 0 - n) = bump (rem.set i (rem.getD i 0 - (n + 1))) i := by
          unfold bump
          rw [List.set_set, getD_set_same hi]
          congr 1
          omega
        rw [e]
        exact week_more1 hu r _ 0 i (by rw [List.length_set]; exact hi)
      · rw [Nat.min_eq_left (by omega), Nat.min_eq_left (by omega)]
        have e : n + 1 - rem.getD i 0 = n - rem.getD i 0 + 1 := by omega
        rw [e]
        exact week_less1 hu r _ _
end
theorem weeks_same {s s' : Stock} {rule : Nat} (hd : s'.demand = s.demand) (hu : ∀ w i, Ks594.isUsable s' w i = Ks594.isUsable s w i) (ho : Ks594.issueOrder s' rule = Ks594.issueOrder s rule) : ∀ (fuel w : Nat) (rem : List Nat), Ks594.issueWeeks s' rule fuel w rem = Ks594.issueWeeks s rule fuel w rem
  | 0, _, _ => rfl
  | f + 1, w, rem => by
    show Ks594.issueWeek s' w (Ks594.issueOrder s' rule) rem (s'.demand.getD w 0) :: Ks594.issueWeeks s' rule f (w + 1) (Ks594.issueWeek s' w (Ks594.issueOrder s' rule) rem (s'.demand.getD w 0)).1 = Ks594.issueWeek s w (Ks594.issueOrder s rule) rem (s.demand.getD w 0) :: Ks594.issueWeeks s rule f (w + 1) (Ks594.issueWeek s w (Ks594.issueOrder s rule) rem (s.demand.getD w 0)).1
    rw [hd, ho, week_same (hu w), weeks_same hd hu ho f]
theorem weeks_more1 {s s' : Stock} {rule : Nat} (hd : s'.demand = s.demand) (hu : ∀ w i, Ks594.isUsable s' w i = Ks594.isUsable s w i) (ho : Ks594.issueOrder s' rule = Ks594.issueOrder s rule) : ∀ (fuel w : Nat) (rem : List Nat) (j : Nat), j < rem.length →
    (((Ks594.issueWeeks s' rule fuel w (bump rem j)).map Prod.snd).sum = ((Ks594.issueWeeks s rule fuel w rem).map Prod.snd).sum ∨ ((Ks594.issueWeeks s' rule fuel w (bump rem j)).map Prod.snd).sum + 1 = ((Ks594.issueWeeks s rule fuel w rem).map Prod.snd).sum)
  | 0, _, _, _, _ => .inl rfl
  | f + 1, w, rem, j, hj => by
    have h := week_more1 (hu w) (Ks594.issueOrder s rule) rem (s.demand.getD w 0) j hj
    show ((Ks594.issueWeek s' w (Ks594.issueOrder s' rule) (bump rem j) (s'.demand.getD w 0) :: Ks594.issueWeeks s' rule f (w + 1) (Ks594.issueWeek s' w (Ks594.issueOrder s' rule) (bump rem j) (s'.demand.getD w 0)).1).map Prod.snd).sum = ((Ks594.issueWeek s w (Ks594.issueOrder s rule) rem (s.demand.getD w 0) :: Ks594.issueWeeks s rule f (w + 1) (Ks594.issueWeek s w (Ks594.issueOrder s rule) rem (s.demand.getD w 0)).1).map Prod.snd).sum ∨ ((Ks594.issueWeek s' w (Ks594.issueOrder s' rule) (bump rem j) (s'.demand.getD w 0) :: Ks594.issueWeeks s' rule f (w + 1) (Ks594.issueWeek s' w (Ks594.issueOrder s' rule) (bump rem j) (s'.demand.getD w 0)).1).map Prod.snd).sum + 1 = ((Ks594.issueWeek s w (Ks594.issueOrder s rule) rem (s.demand.getD w 0) :: Ks594.issueWeeks s rule f (w + 1) (Ks594.issueWeek s w (Ks594.issueOrder s rule) rem (s.demand.getD w 0)).1).map Prod.snd).sum
    rw [hd, ho]
    generalize Ks594.issueWeek s' w (Ks594.issueOrder s rule) (bump rem j) (s.demand.getD w 0) = o' at h
    generalize Ks594.issueWeek s w (Ks594.issueOrder s rule) rem (s.demand.getD w 0) = o at h
    simp only [List.map_cons, List.sum_cons]
    rcases h with ⟨j2, hj2, e1, e2⟩ | ⟨e1, e2⟩
    · rw [e1, e2]
      rcases weeks_more1 hd hu ho f (w + 1) o.1 j2 hj2 with e | e
      · exact .inl (by rw [e])
      · exact .inr (by omega)
    · rw [e1, weeks_same hd hu ho f]
      exact .inr (by omega)
theorem bumped_lots (s : Stock) (i : Nat) (hi : i < s.lots.length) : (Ks594.withOneMore s i).lots.map Lot.amount = bump (s.lots.map Lot.amount) i := by
  have e : (s.lots.map Lot.amount).getD i 0 = (Ks594.lotAt s i).amount := by
    unfold Ks594.lotAt
    rw [List.getD_eq_getElem?_getD, List.getElem?_map, List.getD_eq_getElem?_getD, List.getElem?_eq_getElem hi]
    rfl
  unfold bump
  rw [e]
  show (s.lots.set i _).map Lot.amount = _
  rw [List.map_set]
theorem more_lot (s : Stock) (i k : Nat) : (Ks594.lotAt (Ks594.withOneMore s i) k).first = (Ks594.lotAt s k).first ∧ (Ks594.lotAt (Ks594.withOneMore s i) k).last = (Ks594.lotAt s k).last := by
  unfold Ks594.withOneMore Ks594.lotAt
  dsimp only
  rw [List.getD_eq_getElem?_getD, List.getElem?_set]
  by_cases hik : i = k
  · subst hik
    by_cases hi : i < s.lots.length
    · rw [if_pos rfl, if_pos hi]
      exact ⟨rfl, rfl⟩
    · rw [if_pos rfl, if_neg hi, List.getD_eq_getElem?_getD, List.getElem?_eq_none (by omega)]
      exact ⟨rfl, rfl⟩
  · rw [if_neg hik, List.getD_eq_getElem?_getD]
    exact ⟨rfl, rfl⟩
theorem more_usable (s : Stock) (i w k : Nat) : Ks594.isUsable (Ks594.withOneMore s i) w k = Ks594.isUsable s w k := by
  unfold Ks594.isUsable
  rw [(more_lot s i k).1, (more_lot s i k).2]
theorem more_insert (s : Stock) (i rule k : Nat) : ∀ l, Ks594.insertByPreference (Ks594.withOneMore s i) rule k l = Ks594.insertByPreference s rule k l
  | [] => rfl
  | j :: r => by
    have hp : ∀ a b, Ks594.isPreferred (Ks594.withOneMore s i) rule a b = Ks594.isPreferred s rule a b := fun a b => by
      unfold Ks594.isPreferred
      rw [(more_lot s i a).2, (more_lot s i b).2]
    show (if (Ks594.isPreferred (Ks594.withOneMore s i) rule k j || (!Ks594.isPreferred (Ks594.withOneMore s i) rule j k && decide (k < j))) = true then k :: j :: r else j :: Ks594.insertByPreference (Ks594.withOneMore s i) rule k r) = if (Ks594.isPreferred s rule k j || (!Ks594.isPreferred s rule j k && decide (k < j))) = true then k :: j :: r else j :: Ks594.insertByPreference s rule k r
    rw [hp, hp, more_insert s i rule k r]
theorem more_order (s : Stock) (i rule : Nat) : Ks594.issueOrder (Ks594.withOneMore s i) rule = Ks594.issueOrder s rule := by
  unfold Ks594.issueOrder
  have hl : (Ks594.withOneMore s i).lots.length = s.lots.length := List.length_set
  rw [hl]
  have e : Ks594.insertByPreference (Ks594.withOneMore s i) rule = Ks594.insertByPreference s rule := funext fun k => funext fun l => more_insert s i rule k l
  rw [e]
/-- one more unit of a lot: the total shortage stays, or falls by one -/
theorem one_more (s : Stock) (rule i : Nat) (hi : i < s.lots.length) : (Ks594.shortages (Ks594.withOneMore s i) rule).sum = (Ks594.shortages s rule).sum ∨ (Ks594.shortages (Ks594.withOneMore s i) rule).sum + 1 = (Ks594.shortages s rule).sum := by
  unfold Ks594.shortages Ks594.outcomes
  rw [bumped_lots s i hi]
  exact weeks_more1 (s := s) (s' := Ks594.withOneMore s i) rfl (more_usable s i) (more_order s i rule) (Ks594.weekCount s) 0 (s.lots.map Lot.amount) i (by rw [List.length_map]; exact hi)
end Fl
set_option maxRecDepth 100000
set_option maxHeartbeats 2000000
/-! What is due of the other operations, in words over lists of natural numbers (no program here) -/
namespace Fl
open Ks594 (Lot Stock)
/-! ### issued_in_week -/
theorem takenLen (s : Stock) (ord : List Nat) (nd : ord.Nodup) (w : Nat) (left : List Nat) (d : Nat) (hb : ∀ i ∈ ord, i < left.length) : (taken s ord w left d).length = left.length := (issue_week s w left ord d nd hb).2.len
theorem ams_takenS (s : Stock) (ord : List Nat) (nd : ord.Nodup) : ∀ (r : List Nat) (w : Nat) (left : List Nat), (∀ i ∈ ord, i < left.length) → ∀ (i : Nat) (am : List Nat), (ams s ord w left r)[i]? = some am →
    Taken (leftAfter s ord w left (r.take i)) (r.getD i 0) am ∧ leftAfter s ord w left (r.take (i + 1)) = sub (leftAfter s ord w left (r.take i)) am ∧ (leftAfter s ord w left (r.take i)).length = left.length ∧ (outs s ord w left r)[i]? = some (leftAfter s ord w left (r.take (i + 1)), r.getD i 0 - am.sum)
  | [], _, _, _, i, am, h => by simp [ams] at h
  | e :: r, w, left, hb, 0, am, h => by
    obtain rfl : taken s ord w left e = am := Option.some.inj h
    exact ⟨(issue_week s w left ord e nd hb).2, rfl, rfl, rfl⟩
  | e :: r, w, left, hb, i + 1, am, h => by
    have hl := takenLen s ord nd w left e hb
    have ih := ams_takenS s ord nd r (w + 1) (sub left (taken s ord w left e)) (fun j hj => by rw [sub_len hl]; exact hb j hj) i am h
    rw [sub_len hl] at ih
    exact ih
theorem ams_lenS (s : Stock) (ord : List Nat) : ∀ (r : List Nat) (w : Nat) (left : List Nat), (ams s ord w left r).length = r.length
  | [], _, _ => rfl
  | d :: r, w, left => congrArg Nat.succ (ams_lenS s ord r (w + 1) _)
theorem issued_eq (xs ds : List Nat) (r w : Nat) (hw : w < ds.length) : Ks594.issuedInWeek ⟨lotsOf xs, ds⟩ r w = (amsOf xs ds r).getD w [] := by
  have hb : ∀ i ∈ Ks594.issueOrder ⟨lotsOf xs, ds⟩ r, i < ((lotsOf xs).map Lot.amount).length := fun i hi => by
    rw [List.length_map]
    exact order_lt _ r i hi
  have hlen : (amsOf xs ds r).length = ds.length := ams_lenS _ _ ds 0 _
  have hg : (amsOf xs ds r)[w]? = some ((amsOf xs ds r).getD w []) := by
    rw [List.getD_eq_getElem?_getD, List.getElem?_eq_getElem (by omega)]
    rfl
  obtain ⟨t1, t2, t3, t4⟩ := ams_takenS ⟨lotsOf xs, ds⟩ _ (order_nodup _ r) ds 0 _ hb w _ hg
  generalize (amsOf xs ds r).getD w [] = am at hg t1 t2 t3 t4
  have hal : am.length = (lotsOf xs).length := by rw [t1.len, t3, List.length_map]
  have after : ((Ks594.outcomes ⟨lotsOf xs, ds⟩ r).getD w ([], 0)).1 = sub (leftAfter ⟨lotsOf xs, ds⟩ (Ks594.issueOrder ⟨lotsOf xs, ds⟩ r) 0 ((lotsOf xs).map Lot.amount) (ds.take w)) am := by
    rw [outcomes_eq, List.getD_eq_getElem?_getD, t4, ← t2]
    rfl
  have before : ∀ i, i < (lotsOf xs).length → (if w = 0 then (Ks594.lotAt ⟨lotsOf xs, ds⟩ i).amount else (((Ks594.outcomes ⟨lotsOf xs, ds⟩ r).getD (w - 1) ([], 0)).1).getD i 0) = (leftAfter ⟨lotsOf xs, ds⟩ (Ks594.issueOrder ⟨lotsOf xs, ds⟩ r) 0 ((lotsOf xs).map Lot.amount) (ds.take w)).getD i 0 := fun i hi => by
    cases w with
    | zero =>
      rw [if_pos rfl]
      show ((lotsOf xs).getD i ⟨0, 0, 0⟩).amount = ((lotsOf xs).map Lot.amount).getD i 0
      rw [List.getD_eq_getElem?_getD, List.getD_eq_getElem?_getD, List.getElem?_map, List.getElem?_eq_getElem hi]
      rfl
    | succ w =>
      rw [if_neg (Nat.succ_ne_zero w), Nat.add_sub_cancel]
      have hg2 : (amsOf xs ds r)[w]? = some ((amsOf xs ds r).getD w []) := by
        rw [List.getD_eq_getElem?_getD, List.getElem?_eq_getElem (by omega)]
        rfl
      have t5 := (ams_takenS ⟨lotsOf xs, ds⟩ _ (order_nodup _ r) ds 0 _ hb w _ hg2).2.2.2
      have e6 : ((Ks594.outcomes ⟨lotsOf xs, ds⟩ r).getD w ([], 0)).1 = leftAfter ⟨lotsOf xs, ds⟩ (Ks594.issueOrder ⟨lotsOf xs, ds⟩ r) 0 ((lotsOf xs).map Lot.amount) (ds.take (w + 1)) := by
        rw [outcomes_eq, List.getD_eq_getElem?_getD, t5]
        rfl
      rw [e6]
  unfold Ks594.issuedInWeek
  apply List.ext_getElem?
  intro i
  rw [List.getElem?_map]
  by_cases hi : i < (lotsOf xs).length
  · rw [List.getElem?_range hi]
    have hu := t1.under i
    show some ((if w = 0 then _ else _) - _) = _
    rw [before i hi, after, sub_get (by rw [t1.len]), List.getElem?_eq_getElem (by omega)]
    have e : am.getD i 0 = am[i] := by rw [List.getD_eq_getElem?_getD, List.getElem?_eq_getElem (by omega)]; rfl
    rw [← e]
    congr 1
    omega
  · rw [List.getElem?_eq_none (by rw [List.length_range]; exact Nat.le_of_not_lt hi), List.getElem?_eq_none (by omega)]
    rfl
theorem spec_issued (r w : Nat) (xs ds : List Nat) : PyKs594.issued_in_week (Int.ofNat r) (Int.ofNat w) (xs.map Int.ofNat) (ds.map Int.ofNat) = badOr (stockOk xs ds && decide (r ≤ 1)) (if ds.length ≤ w then [-2] else ((lotsOf xs).length :: (amsOf xs ds r).getD w []).map Int.ofNat) := by
  show Ks594Neutral.integers (Ks594.withRule r ((xs.map Int.ofNat).map Int.toNat) ((ds.map Int.ofNat).map Int.toNat) _) = _
  rw [toNat_map, toNat_map]
  unfold Ks594.withRule Ks594.withStock
  rw [parse_stock]
  unfold badOr
  by_cases c : stockOk xs ds = true
  · rw [if_pos c, c, Bool.true_and]
    dsimp only
    by_cases h : r ≤ 1
    · rw [if_neg (by omega), decide_eq_true h, if_pos rfl]
      show Ks594Neutral.integers (if ds.length ≤ w then _ else _) = _
      by_cases hw : ds.length ≤ w
      · rw [if_pos hw, if_pos hw]
        rfl
      · rw [if_neg hw, if_neg hw]
        show Ks594Neutral.integers (Ks594.listResult (Ks594.issuedInWeek ⟨lotsOf xs, ds⟩ r w)) = _
        rw [issued_eq xs ds r w (by omega)]
        have hb : ∀ i ∈ Ks594.issueOrder ⟨lotsOf xs, ds⟩ r, i < ((lotsOf xs).map Lot.amount).length := fun i hi => by
          rw [List.length_map]
          exact order_lt _ r i hi
        have hlen : (amsOf xs ds r).length = ds.length := ams_lenS _ _ ds 0 _
        have hg : (amsOf xs ds r)[w]? = some ((amsOf xs ds r).getD w []) := by
          rw [List.getD_eq_getElem?_getD, List.getElem?_eq_getElem (by omega)]
          rfl
        obtain ⟨t1, t2, t3, t4⟩ := ams_takenS ⟨lotsOf xs, ds⟩ _ (order_nodup _ r) ds 0 _ hb w _ hg
        have hal : ((amsOf xs ds r).getD w []).length = (lotsOf xs).length := by rw [t1.len, t3, List.length_map]
        unfold Ks594.listResult Ks594Neutral.integers
        dsimp only
        rw [hal]
        rfl
    · rw [if_pos (by omega), decide_eq_false h, if_neg Bool.false_ne_true]
      rfl
  · rw [if_neg c, Bool.not_eq_true _ |>.mp c, Bool.false_and, if_neg Bool.false_ne_true]
    rfl
/-! ### proven_shortage, best_proof -/
/-- the demand of a set of weeks -/
def wantOf (ds : List Nat) (m : Nat) : Nat := ((List.range ds.length).map fun w => if m.testBit w then ds.getD w 0 else 0).sum
/-- a lot that some week of the set may use -/
def helps (l : Lot) (n m : Nat) : Bool := (List.range n).any fun w => m.testBit w && (decide (l.first ≤ w) && decide (w ≤ l.last))
def haveOf (ls : List Lot) (n m : Nat) : Nat := ((List.range ls.length).map fun i => if helps (ls.getD i ⟨0, 0, 0⟩) n m then (ls.getD i ⟨0, 0, 0⟩).amount else 0).sum
def provenOf (ls : List Lot) (ds : List Nat) (m : Nat) : Nat := wantOf ds m - haveOf ls ds.length m
theorem proven_eq (ls : List Lot) (ds : List Nat) (m : Nat) : Ks594.provenShortage ⟨ls, ds⟩ m = provenOf ls ds m := rfl
theorem spec_proven (m : Nat) (xs ds : List Nat) : PyKs594.proven_shortage (Int.ofNat m) (xs.map Int.ofNat) (ds.map Int.ofNat) = badOr (stockOk xs ds && decide (m < 2 ^ ds.length)) [Int.ofNat (provenOf (lotsOf xs) ds m)] := by
  show Ks594Neutral.integers (Ks594.withStock ((xs.map Int.ofNat).map Int.toNat) ((ds.map Int.ofNat).map Int.toNat) _) = _
  rw [toNat_map, toNat_map]
  unfold Ks594.withStock
  rw [parse_stock]
  unfold badOr
  by_cases c : stockOk xs ds = true
  · rw [if_pos c, c, Bool.true_and]
    show Ks594Neutral.integers (if 2 ^ ds.length ≤ m then _ else _) = _
    by_cases h : 2 ^ ds.length ≤ m
    · rw [if_pos h, decide_eq_false (by omega), if_neg Bool.false_ne_true]
      rfl
    · rw [if_neg h, decide_eq_true (by omega), if_pos rfl]
      rfl
  · rw [if_neg c, Bool.not_eq_true _ |>.mp c, Bool.false_and, if_neg Bool.false_ne_true]
    rfl
/-- the first set that proves the most among the first k -/
def bestOf (ls : List Lot) (ds : List Nat) (k : Nat) : Nat := (List.range k).foldl (fun best m => if provenOf ls ds best < provenOf ls ds m then m else best) 0
theorem best_more (ls : List Lot) (ds : List Nat) (k : Nat) : bestOf ls ds (k + 1) = if provenOf ls ds (bestOf ls ds k) < provenOf ls ds k then k else bestOf ls ds k := by
  unfold bestOf
  rw [List.range_succ]; rw [List.foldl_append]
  rfl
theorem best_first (ls : List Lot) (ds : List Nat) : ∀ k, (∀ m, m < k → provenOf ls ds m ≤ provenOf ls ds (bestOf ls ds k)) ∧ (bestOf ls ds k < k ∨ bestOf ls ds k = 0) ∧ ∀ m, m < bestOf ls ds k → provenOf ls ds m < provenOf ls ds (bestOf ls ds k)
  | 0 => ⟨fun m h => absurd h (by omega), .inr rfl, fun m h => absurd h (Nat.not_lt_zero m)⟩
  | k + 1 => by
    obtain ⟨h1, h2, h3⟩ := best_first ls ds k
    rw [best_more]
    by_cases c : provenOf ls ds (bestOf ls ds k) < provenOf ls ds k
    · rw [if_pos c]
      refine ⟨fun m hm => ?_, .inl (by omega), fun m hm => ?_⟩
      · by_cases e : m = k
        · rw [e]
          exact Nat.le_refl _
        · have := h1 m (by omega)
          omega
      · have := h1 m hm
        omega
    · rw [if_neg c]
      refine ⟨fun m hm => ?_, by omega, h3⟩
      by_cases e : m = k
      · rw [e]
        omega
      · exact h1 m (by omega)
/-- any first greatest one is it -/
theorem best_unique (ls : List Lot) (ds : List Nat) (k b : Nat) (hb : b < k) (h1 : ∀ m, m < k → provenOf ls ds m ≤ provenOf ls ds b) (h2 : ∀ m, m < b → provenOf ls ds m < provenOf ls ds b) : bestOf ls ds k = b := by
  obtain ⟨q1, q2, q3⟩ := best_first ls ds k
  have a1 := q1 b hb
  have hlt : bestOf ls ds k < k := by omega
  have a2 := h1 _ hlt
  rcases Nat.lt_trichotomy (bestOf ls ds k) b with h | h | h
  · have := h2 _ h
    omega
  · exact h
  · have := q3 _ h
    omega
theorem spec_best (xs ds : List Nat) : PyKs594.best_proof (xs.map Int.ofNat) (ds.map Int.ofNat) = badOr (stockOk xs ds) ([provenOf (lotsOf xs) ds (bestOf (lotsOf xs) ds (2 ^ ds.length)), bestOf (lotsOf xs) ds (2 ^ ds.length)].map Int.ofNat) := by
  show Ks594Neutral.integers (Ks594.withStock ((xs.map Int.ofNat).map Int.toNat) ((ds.map Int.ofNat).map Int.toNat) _) = _
  rw [toNat_map, toNat_map]
  unfold Ks594.withStock
  rw [parse_stock]
  unfold badOr
  by_cases c : stockOk xs ds = true
  · rw [if_pos c, if_pos c]
    rfl
  · rw [if_neg c, if_neg c]
    rfl
/-! ### check_plan -/
def planOk (ls : List Lot) (ds tb : List Nat) : Bool :=
  tb.length == ds.length * ls.length &&
  (List.range ds.length).all (fun w => (List.range ls.length).all (fun i => tb.getD (w * ls.length + i) 0 == 0 || (decide ((ls.getD i ⟨0, 0, 0⟩).first ≤ w) && decide (w ≤ (ls.getD i ⟨0, 0, 0⟩).last))) &&
    decide (((List.range ls.length).map fun i => tb.getD (w * ls.length + i) 0).sum ≤ ds.getD w 0)) &&
  (List.range ls.length).all fun i => decide (((List.range ds.length).map fun w => tb.getD (w * ls.length + i) 0).sum ≤ (ls.getD i ⟨0, 0, 0⟩).amount)
theorem plan_eq (ls : List Lot) (ds tb : List Nat) : Ks594.isFeasiblePlan ⟨ls, ds⟩ tb = planOk ls ds tb := rfl
theorem spec_check (xs ds tb : List Nat) : PyKs594.check_plan (xs.map Int.ofNat) (ds.map Int.ofNat) (tb.map Int.ofNat) = badOr (stockOk xs ds && tb.all fun x => decide (x ≤ 99)) ([if planOk (lotsOf xs) ds tb = true then 1 else 0, ds.sum - tb.sum].map Int.ofNat) := by
  show Ks594Neutral.integers (Ks594.withStock ((xs.map Int.ofNat).map Int.toNat) ((ds.map Int.ofNat).map Int.toNat) fun s => if (((tb.map Int.ofNat).map Int.toNat).any fun x => decide (99 < x)) = true then Ks594.number (-22)
    else { value := if Ks594.isFeasiblePlan s ((tb.map Int.ofNat).map Int.toNat) then 1 else 0, rest := [s.demand.sum - ((tb.map Int.ofNat).map Int.toNat).sum] }) = _
  rw [toNat_map, toNat_map, toNat_map]
  unfold Ks594.withStock
  rw [parse_stock]
  unfold badOr
  by_cases c : stockOk xs ds = true
  · rw [if_pos c, c, Bool.true_and]
    dsimp only
    by_cases h : (tb.all fun x => decide (x ≤ 99)) = true
    · have h2 : ¬ (tb.any fun x => decide (99 < x)) = true := fun z => by
        obtain ⟨x, hx, h3⟩ := List.any_eq_true.mp z
        have h4 := of_decide_eq_true (List.all_eq_true.mp h x hx)
        have h5 := of_decide_eq_true h3
        omega
      rw [if_neg h2, h, if_pos rfl, plan_eq]
      cases planOk (lotsOf xs) ds tb <;> rfl
    · have h2 : (tb.any fun x => decide (99 < x)) = true := by
        refine Classical.byContradiction fun z => h (List.all_eq_true.mpr fun x hx => decide_eq_true (Classical.byContradiction fun h3 => z (List.any_eq_true.mpr ⟨x, hx, decide_eq_true (by omega)⟩)))
      rw [if_pos h2, if_neg h]
      rfl
  · rw [if_neg c, Bool.not_eq_true _ |>.mp c, Bool.false_and, if_neg Bool.false_ne_true]
    rfl
/-! ### shortage_saved -/
/-- the total shortage by a rule, of any stock -/
def totalOf (ls : List Lot) (ds : List Nat) (r : Nat) : Nat := (Ks594.shortages ⟨ls, ds⟩ r).sum
def moreOf (ls : List Lot) (i : Nat) : List Lot := ls.set i ⟨(ls.getD i ⟨0, 0, 0⟩).first, (ls.getD i ⟨0, 0, 0⟩).last, (ls.getD i ⟨0, 0, 0⟩).amount + 1⟩
theorem saved_le (ls : List Lot) (ds : List Nat) (i : Nat) (hi : i < ls.length) : totalOf (moreOf ls i) ds 0 = totalOf ls ds 0 ∨ totalOf (moreOf ls i) ds 0 + 1 = totalOf ls ds 0 := one_more ⟨ls, ds⟩ 0 i hi
theorem spec_saved (i : Nat) (xs ds : List Nat) : PyKs594.shortage_saved (Int.ofNat i) (xs.map Int.ofNat) (ds.map Int.ofNat) = badOr (stockOk xs ds) (if (lotsOf xs).length ≤ i then [-2] else [Int.ofNat (totalOf (lotsOf xs) ds 0 - totalOf (moreOf (lotsOf xs) i) ds 0)]) := by
  show Ks594Neutral.integers (Ks594.withStock ((xs.map Int.ofNat).map Int.toNat) ((ds.map Int.ofNat).map Int.toNat) _) = _
  rw [toNat_map, toNat_map]
  unfold Ks594.withStock
  rw [parse_stock]
  unfold badOr
  by_cases c : stockOk xs ds = true
  · rw [if_pos c, if_pos c]
    show Ks594Neutral.integers (if (lotsOf xs).length ≤ i then _ else _) = _
    by_cases h : (lotsOf xs).length ≤ i
    · rw [if_pos h, if_pos h]
      rfl
    · rw [if_neg h, if_neg h]
      rfl
  · rw [if_neg c, if_neg c]
    rfl
end Fl
set_option maxRecDepth 100000
set_option maxHeartbeats 2000000
/-! A set of weeks as lists: the weeks of it, what is wanted in them, what lots may be used in them (no program here) -/
namespace Fl
open Ks594 (Lot Stock)
theorem sum_filter (p : Nat → Bool) (f : Nat → Nat) : ∀ l : List Nat, ((l.filter p).map f).sum = (l.map fun i => if p i = true then f i else 0).sum
  | [] => rfl
  | x :: r => by
    rw [List.map_cons, List.sum_cons, ← sum_filter p f r]
    by_cases c : p x = true
    · rw [List.filter_cons_of_pos c, List.map_cons, List.sum_cons, if_pos c]
    · rw [List.filter_cons_of_neg c, if_neg c, Nat.zero_add]
theorem filter_range (p : Nat → Bool) (k : Nat) : (List.range (k + 1)).filter p = (List.range k).filter p ++ (if p k = true then [k] else []) := by
  rw [List.range_succ, List.filter_append]
  congr 1
  by_cases c : p k = true
  · rw [if_pos c, List.filter_cons_of_pos c, List.filter_nil]
  · rw [if_neg c, List.filter_cons_of_neg c, List.filter_nil]
/-- the weeks of a set, among the first n -/
def weeksOf (n m : Nat) : List Nat := (List.range n).filter fun w => m.testBit w
theorem weeks_more (n m : Nat) : weeksOf (n + 1) m = weeksOf n m ++ (if m.testBit n = true then [n] else []) := filter_range _ n
theorem weeks_len (n m : Nat) : (weeksOf n m).length ≤ n := Nat.le_trans (List.length_filter_le ..) (by rw [List.length_range]; exact Nat.le_refl _)
theorem weeks_lt {n m i : Nat} (h : i < (weeksOf n m).length) : (weeksOf n m).getD i 0 < n := by
  have e : (weeksOf n m).getD i 0 = (weeksOf n m)[i] := by rw [List.getD_eq_getElem?_getD, List.getElem?_eq_getElem h, Option.getD_some]
  rw [e]
  have q : (weeksOf n m)[i] ∈ (List.range n).filter fun w => m.testBit w := List.getElem_mem h
  exact List.mem_range.mp (List.mem_filter.mp q).1
theorem want_weeks (ds : List Nat) (m : Nat) : ((weeksOf ds.length m).map fun w => ds.getD w 0).sum = wantOf ds m := sum_filter _ _ _
theorem helps_weeks (l : Lot) (n m : Nat) : (weeksOf n m).any (usesIn l) = helps l n m := by
  unfold weeksOf helps
  rw [List.any_filter]
  rfl
/-- the amounts of the lots among the first k that some week of the set may use -/
def haveL (ls : List Lot) (n m k : Nat) : List Nat := ((List.range k).filter fun i => helps (ls.getD i ⟨0, 0, 0⟩) n m).map fun i => (ls.getD i ⟨0, 0, 0⟩).amount
theorem have_more (ls : List Lot) (n m k : Nat) : haveL ls n m (k + 1) = haveL ls n m k ++ (if helps (ls.getD k ⟨0, 0, 0⟩) n m = true then [(ls.getD k ⟨0, 0, 0⟩).amount] else []) := by
  unfold haveL
  rw [filter_range, List.map_append]
  congr 1
  by_cases c : helps (ls.getD k ⟨0, 0, 0⟩) n m = true
  · rw [if_pos c, if_pos c]
    rfl
  · rw [if_neg c, if_neg c]
    rfl
theorem have_len (ls : List Lot) (n m k : Nat) : (haveL ls n m k).length ≤ k := by
  unfold haveL
  rw [List.length_map]
  exact Nat.le_trans (List.length_filter_le ..) (by rw [List.length_range]; exact Nat.le_refl _)
theorem have_sum (ls : List Lot) (n m : Nat) : (haveL ls n m ls.length).sum = haveOf ls n m := sum_filter _ _ _
theorem take_map_more (f : Nat → Nat) {xs : List Nat} {i : Nat} (h : i < xs.length) : (xs.take (i + 1)).map f = (xs.take i).map f ++ [f (xs.getD i 0)] := by
  have e : xs.getD i 0 = xs[i] := by rw [List.getD_eq_getElem?_getD, List.getElem?_eq_getElem h, Option.getD_some]
  rw [List.take_succ_eq_append_getElem h, List.map_append, e]
  rfl
theorem take_mapB_more (f : Nat → Bool) {xs : List Nat} {i : Nat} (h : i < xs.length) : (xs.take (i + 1)).map f = (xs.take i).map f ++ [f (xs.getD i 0)] := by
  have e : xs.getD i 0 = xs[i] := by rw [List.getD_eq_getElem?_getD, List.getElem?_eq_getElem h, Option.getD_some]
  rw [List.take_succ_eq_append_getElem h, List.map_append, e]
  rfl
theorem proven_none (ls : List Lot) (ds : List Nat) : provenOf ls ds 0 = 0 := by
  have e : wantOf ds 0 = 0 := by
    rw [← want_weeks]
    have w0 : weeksOf ds.length 0 = [] := by
      unfold weeksOf
      refine List.filter_eq_nil_iff.mpr fun w _ => ?_
      rw [Nat.zero_testBit]
      exact Bool.false_ne_true
    rw [w0]
    rfl
  unfold provenOf
  rw [e, Nat.zero_sub]
end Fl
set_option linter.all false
set_option maxRecDepth 100000
set_option maxHeartbeats 2000000
/-! A plan, week by week and lot by lot, as the program looks at it (no program here) -/
namespace Fl
open Ks594 (Lot Stock)
/-- what a table of n lots gives in a week, lot by lot -/
def rowP (n : Nat) (tb : List Nat) (w : Nat) : List Nat := (List.range n).map fun i => tb.getD (w * n + i) 0
/-- what it takes from a lot in the first m weeks -/
def colP (n : Nat) (tb : List Nat) (i m : Nat) : List Nat := (List.range m).map fun w => tb.getD (w * n + i) 0
theorem rowP_len (n : Nat) (tb : List Nat) (w : Nat) : (rowP n tb w).length = n := by
  unfold rowP
  rw [List.length_map]; exact List.length_range
theorem rowP_get {n i : Nat} (tb : List Nat) (w : Nat) (h : i < n) : (rowP n tb w).getD i 0 = tb.getD (w * n + i) 0 := by
  unfold rowP
  rw [List.getD_eq_getElem?_getD, List.getElem?_map]; rw [List.getElem?_range h]
  rfl
theorem colP_len (n : Nat) (tb : List Nat) (i m : Nat) : (colP n tb i m).length = m := by
  unfold colP
  rw [List.length_map]; exact List.length_range
theorem colP_more (n : Nat) (tb : List Nat) (i m : Nat) : colP n tb i (m + 1) = colP n tb i m ++ [tb.getD (m * n + i) 0] := by
  unfold colP
  rw [List.range_succ, List.map_append]
  rfl
/-- a week's part of the table -/
theorem row_cut {n w : Nat} {tb : List Nat} (h : (w + 1) * n ≤ tb.length) : (tb.drop (w * n)).take n = rowP n tb w := by
  have hw : w * n + n ≤ tb.length := by
    rw [Nat.add_mul, Nat.one_mul] at h
    exact h
  apply List.ext_getElem?
  intro i
  by_cases hi : i < n
  · rw [List.getElem?_take_of_lt hi, List.getElem?_drop]
    unfold rowP
    rw [List.getElem?_map, List.getElem?_range hi, List.getElem?_eq_getElem (by omega)]
    show some _ = some (tb.getD (w * n + i) 0)
    rw [List.getD_eq_getElem?_getD, List.getElem?_eq_getElem (by omega)]; rfl
  · rw [List.getElem?_eq_none (by rw [List.length_take]; omega), List.getElem?_eq_none (by rw [rowP_len]; omega)]
/-- lot by lot of the first k: whether something is taken from it though it may not be used in the week -/
def unusL (ls : List Lot) (w : Nat) (am : List Nat) (k : Nat) : List Bool := (List.range k).map fun i => decide (0 < am.getD i 0) && !usesIn (ls.getD i ⟨0, 0, 0⟩) w
theorem unusL_more (ls : List Lot) (w : Nat) (am : List Nat) (k : Nat) : unusL ls w am (k + 1) = unusL ls w am k ++ [decide (0 < am.getD k 0) && !usesIn (ls.getD k ⟨0, 0, 0⟩) w] := by
  unfold unusL
  rw [List.range_succ, List.map_append]
  rfl
theorem unusL_len (ls : List Lot) (w : Nat) (am : List Nat) (k : Nat) : (unusL ls w am k).length = k := by
  unfold unusL
  rw [List.length_map]; exact List.length_range
def unus (ls : List Lot) (w : Nat) (am : List Nat) : Bool := (unusL ls w am ls.length).any id
/-- a week, a lot, at which the table is no plan -/
def weekBad (ls : List Lot) (ds tb : List Nat) (w : Nat) : Bool := decide (ds.getD w 0 < (rowP ls.length tb w).sum) || unus ls w (rowP ls.length tb w)
def lotBad (ls : List Lot) (ds tb : List Nat) (i : Nat) : Bool := decide ((ls.getD i ⟨0, 0, 0⟩).amount < (colP ls.length tb i ds.length).sum)
theorem not_lt_le (a b : Nat) : (!decide (a < b)) = decide (b ≤ a) := by
  by_cases h : a < b
  · rw [decide_eq_true h, decide_eq_false (by omega)]
    rfl
  · rw [decide_eq_false h, decide_eq_true (by omega)]
    rfl
theorem all_eq {p q : Nat → Bool} : ∀ {l : List Nat}, (∀ x ∈ l, p x = q x) → l.all p = l.all q
  | [], _ => rfl
  | x :: r, h => by
    rw [List.all_cons, List.all_cons, h x (List.mem_cons_self ..), all_eq fun y hy => h y (List.mem_cons_of_mem _ hy)]
theorem any_all (p : Nat → Bool) : ∀ l : List Nat, (!l.any p) = l.all fun x => !p x
  | [] => rfl
  | x :: r => by
    rw [List.any_cons, List.all_cons, Bool.not_or, any_all p r]
theorem week_good (ls : List Lot) (ds tb : List Nat) (w : Nat) :
    ((List.range ls.length).all (fun i => tb.getD (w * ls.length + i) 0 == 0 || (decide ((ls.getD i ⟨0, 0, 0⟩).first ≤ w) && decide (w ≤ (ls.getD i ⟨0, 0, 0⟩).last))) && decide (((List.range ls.length).map fun i => tb.getD (w * ls.length + i) 0).sum ≤ ds.getD w 0)) = !weekBad ls ds tb w := by
  unfold weekBad
  rw [Bool.not_or, Bool.and_comm, not_lt_le]
  congr 1
  unfold unus unusL
  rw [List.any_map, any_all]
  refine all_eq fun i hi => ?_
  show _ = !(decide (0 < (rowP ls.length tb w).getD i 0) && !usesIn (ls.getD i ⟨0, 0, 0⟩) w)
  rw [rowP_get tb w (List.mem_range.mp hi), Bool.not_and, Bool.not_not]
  show _ = (_ || (decide ((ls.getD i ⟨0, 0, 0⟩).first ≤ w) && decide (w ≤ (ls.getD i ⟨0, 0, 0⟩).last)))
  congr 1
  generalize tb.getD (w * ls.length + i) 0 = x
  rw [not_lt_le]
  by_cases h : x = 0
  · rw [h]
    rfl
  · rw [decide_eq_false (by omega)]
    exact beq_eq_false_iff_ne.mpr h
theorem plan_bad (ls : List Lot) (ds tb : List Nat) : planOk ls ds tb = (decide (tb.length = ds.length * ls.length) && ((List.range ds.length).all (fun w => !weekBad ls ds tb w) && (List.range ls.length).all fun i => !lotBad ls ds tb i)) := by
  unfold planOk
  rw [Bool.and_assoc]
  congr 1
  congr 1
  · exact all_eq fun w _ => week_good ls ds tb w
  · exact all_eq fun i _ => (not_lt_le _ _).symm
/-- what is wrong at one place is wrong of the whole -/
theorem bad_len {ls : List Lot} {ds tb : List Nat} (h : ¬ tb.length = ds.length * ls.length) : planOk ls ds tb = false := by
  rw [plan_bad, decide_eq_false h, Bool.false_and]
theorem bad_week {ls : List Lot} {ds tb : List Nat} {w : Nat} (hw : w < ds.length) (h : weekBad ls ds tb w = true) : planOk ls ds tb = false := by
  rw [plan_bad]
  have e : (List.range ds.length).all (fun w => !weekBad ls ds tb w) = false := by
    refine Bool.eq_false_iff.mpr fun z => ?_
    have q := List.all_eq_true.mp z w (List.mem_range.mpr hw)
    rw [h] at q
    cases q
  rw [e, Bool.false_and, Bool.and_false]
theorem bad_lot {ls : List Lot} {ds tb : List Nat} {i : Nat} (hi : i < ls.length) (h : lotBad ls ds tb i = true) : planOk ls ds tb = false := by
  rw [plan_bad]
  have e : (List.range ls.length).all (fun i => !lotBad ls ds tb i) = false := by
    refine Bool.eq_false_iff.mpr fun z => ?_
    have q := List.all_eq_true.mp z i (List.mem_range.mpr hi)
    rw [h] at q
    cases q
  rw [e, Bool.and_false, Bool.and_false]
theorem all_good {ls : List Lot} {ds tb : List Nat} (h0 : tb.length = ds.length * ls.length) (h1 : ∀ w, w < ds.length → weekBad ls ds tb w = false) (h2 : ∀ i, i < ls.length → lotBad ls ds tb i = false) : planOk ls ds tb = true := by
  rw [plan_bad, decide_eq_true h0, Bool.true_and, Bool.and_eq_true]
  refine ⟨List.all_eq_true.mpr fun w hw => ?_, List.all_eq_true.mpr fun i hi => ?_⟩
  · rw [h1 w (List.mem_range.mp hw)]
    rfl
  · rw [h2 i (List.mem_range.mp hi)]
    rfl
end Fl
set_option Elab.async false
set_option linter.all false
set_option maxRecDepth 100000
set_option maxHeartbeats 4100000
namespace Fl
open PySem PySem.Spec PyProof.Rows L2
/-! ### words over lists of natural numbers -/
def nl (xs : List Nat) : List V := (xs.map Int.ofNat).map V.int
theorem nl_len (xs : List Nat) : (nl xs).length = xs.length := by unfold nl; rw [List.length_map, List.length_map]
theorem nl_get {xs : List Nat} {i x : Nat} (h : xs[i]? = some x) : (nl xs)[i]? = some (.int (x : Int)) := by
  unfold nl; rw [List.getElem?_map, List.getElem?_map, h]; rfl
theorem nl_getD {xs : List Nat} {i : Nat} (h : i < xs.length) : (nl xs)[i]? = some (.int ((xs.getD i 0 : Nat) : Int)) := by
  refine nl_get ?_
  rw [List.getD_eq_getElem?_getD]; rw [List.getElem?_eq_getElem h]; rfl
theorem nl_inv {xs : List Nat} {i : Nat} {v : V} (h : (nl xs)[i]? = some v) : i < xs.length ∧ v = .int ((xs.getD i 0 : Nat) : Int) := by
  by_cases hi : i < xs.length
  · exact ⟨hi, Option.some.inj (h.symm.trans (nl_getD hi))⟩
  · rw [List.getElem?_eq_none (by rw [nl_len]; omega)] at h; cases h
theorem nl_at {xs : List Nat} {i : Int} (j : Nat) (hi : i = (j : Int)) (h : j < xs.length) : atI (nl xs) i = some (.int ((xs.getD j 0 : Nat) : Int)) := by
  rw [hi]; exact atI_nat (nl_getD h)
theorem nl_app (xs ys : List Nat) : nl (xs ++ ys) = nl xs ++ nl ys := by unfold nl; rw [List.map_append, List.map_append]
theorem nl_set (xs : List Nat) (i a : Nat) : nl (xs.set i a) = (nl xs).set i (.int (a : Int)) := by
  unfold nl; rw [List.map_set, List.map_set]; rfl
theorem nl_rep (n : Nat) : nl (List.replicate n 0) = List.replicate n (V.int 0) := by
  unfold nl; rw [List.map_replicate, List.map_replicate]; rfl
theorem sum_ofNat : ∀ xs : List Nat, (xs.map Int.ofNat).sum = ((xs.sum : Nat) : Int)
  | [] => rfl
  | x :: r => by
    rw [List.map_cons, List.sum_cons, List.sum_cons, sum_ofNat r]; exact (Int.natCast_add x r.sum).symm
theorem same_upd {H : Hp} {p : Addr} {o : HO} (h : H p = none) : Same H (upd H p o) := fun b x e => by
  rw [upd_ne (ne_of_none e h)]
  exact e
theorem if_true_of' {c : Bool} {A B : Prop} (hc : c = true) (h : A) : if c = true then A else B := by
  rw [if_pos hc]
  exact h
theorem if_false_of' {c : Bool} {A B : Prop} (hc : c = false) (h : B) : if c = true then A else B := by
  rw [hc, if_neg Bool.false_ne_true]
  exact h
theorem small_line {n : Nat} (h : n ≤ 1000) : n < sizeLine := small1000 h
/-! ### the text -/
def topS (i : Nat) : Stmt := PySem.Challenge.pw_freshlots_s06_check_plan.main.body.getD i (.Pass ⟨0, 0, 0, 0⟩)
abbrev sLol : Stmt := topS 6
abbrev sLl : Stmt := topS 7
abbrev sDl : Stmt := topS 8
abbrev sSl : Stmt := topS 9
abbrev sInit : Stmt := inClass (topS 12) 0
abbrev sUse : Stmt := inClass (topS 12) 1
abbrev sOut : Stmt := topS 14
abbrev sRead : Stmt := topS 15
abbrev sTil : Stmt := topS 10
abbrev sFea : Stmt := topS 16
abbrev sUnu : Stmt := topS 17
abbrev sMain : Stmt := topS 13
theorem scLl : FnScope ["first", "last", "amount"] ["first", "last", "amount"] (defScope sLl) := ⟨rfl, rfl, rfl, by decide +kernel, rfl, by decide +kernel, by decide +kernel⟩
theorem scLol : FnScope ["lots", "start"] ["lots"] (defScope sLol) := ⟨rfl, rfl, rfl, by decide +kernel, rfl, by decide +kernel, by decide +kernel⟩
theorem scDl : FnScope ["demand"] ["demand"] (defScope sDl) := ⟨rfl, rfl, rfl, by decide +kernel, rfl, by decide +kernel, by decide +kernel⟩
theorem scSl : FnScope ["lots", "demand"] ["lots", "demand"] (defScope sSl) := ⟨rfl, rfl, rfl, by decide +kernel, rfl, by decide +kernel, by decide +kernel⟩
theorem scOut : FnScope [] [] (defScope sOut) := ⟨rfl, rfl, rfl, by decide +kernel, rfl, by decide +kernel, by decide +kernel⟩
/-- what the top's names stand for -/
structure Txt (K : PySem.W.Frag) (mg : Str → Option Value) (C : Addr) : Prop where
  cl : Cls K C
  nF : NoAttr K C "first"
  nL : NoAttr K C "last"
  nA : NoAttr K C "amount"
  gC : mg "Lot" = some (.ref C)
  n3 : ∃ t, mg "NUMBERS_PER_LOT" = some (.int 3 t)
  n6 : ∃ t, mg "MOST_LOTS" = some (.int 6 t)
  n10 : ∃ t, mg "MOST_WEEKS" = some (.int 10 t)
  nW : ∃ t, mg "HIGHEST_LAST_WEEK" = some (.int 99 t)
  nM : ∃ t, mg "HIGHEST_AMOUNT" = some (.int 99 t)
  len : mg "len" = none
  range : mg "range" = none
  max : mg "max" = none
  min : mg "min" = none
  sum : mg "sum" = none
  zip : mg "zip" = none
  enum : mg "enumerate" = none
  sorted : mg "sorted" = none
  any : mg "any" = none
  all : mg "all" = none
section
variable {P : Program} {w : World} {K : PySem.W.Frag} {mg : Str → Option Value} {base : Heap} {C : Addr}
/-! ### lot_in_limits -/
def spLl : Sp := fun vs H Q _ => ∃ f l a : Nat, vs = [.int f, .int l, .int a] ∧ Q (.bl (okTriple f l a)) H
theorem ok_ll {f : Addr} {fd : FuncData} (F : Fun K "lot_in_limits" "lot_in_limits" sLl f fd) (T : Txt K mg C) : FnOk P w K mg base CX0 1 f fd ["first", "last", "amount"] spLl := by
  obtain ⟨t1, g1⟩ := T.nW
  obtain ⟨t2, g2⟩ := T.nM
  refine F.ok scLl (fun vs H Q E h => ?_) (fun cdv A outer s H vs Q E hr h => ?_)
  · obtain ⟨f, l, a, rfl, _⟩ := h
    rfl
  · obtain ⟨f, l, a, rfl, q⟩ := h
    refine ⟨_, pss_one (ps_ret (pe_and (pe_chain op_le op_le (pv 0) (pv 1) (pe_glob (v := .int 99) rfl g1 ⟨_, rfl⟩)) (pe_one (pe_cmpR op_le (pv 2) (pe_glob (v := .int 99) rfl g2 ⟨_, rfl⟩) (nomark _))))), ?_⟩
    refine ⟨_, rfl, _, rfl, _, _, rfl, rfl, _, rfl, ite2 (fun c1 => ⟨_, _, rfl, rfl, _, rfl, ite2 (fun c2 => ⟨_, rfl, _, _, rfl, rfl, ?_⟩) (fun c2 => ?_)⟩) (fun c1 => ⟨_, rfl, iteF ?_⟩)⟩
    · have e : okTriple f l a = decide ((a : Int) ≤ 99) := by
        unfold okTriple
        have h1 : f ≤ l := by have := of_decide_eq_true c1; omega
        have h2 : l ≤ 99 := by have := of_decide_eq_true c2; omega
        by_cases h3 : a ≤ 99
        · rw [decide_eq_true (by omega), decide_eq_true (by omega)]
        · rw [decide_eq_false (by omega), decide_eq_false (by omega)]
      rw [e] at q
      exact q
    · have e : okTriple f l a = false := by
        unfold okTriple
        have h2 : ¬ l ≤ 99 := fun z => c2 (decide_eq_true (by omega))
        exact (decide_eq_false (by omega))
      rw [e] at q
      exact q
    · have e : okTriple f l a = false := by
        unfold okTriple
        have h2 : ¬ f ≤ l := fun z => c1 (decide_eq_true (by omega))
        exact (decide_eq_false (by omega))
      rw [e] at q
      exact q
/-! ### lots_in_limits -/
theorem size3 {n : Nat} (hm : n % 3 = 0) : Builtin.Range.rangeSize 0 (n : Int) 3 = ((n / 3 : Nat) : Int) := by
  delta Builtin.Range.rangeSize
  rw [if_pos (by decide)]
  by_cases h0 : (0 : Int) < (n : Int)
  · rw [if_pos h0]
    omega
  · rw [if_neg h0]
    omega
theorem fits {x : Int} (h1 : -1000000 ≤ x) (h2 : x ≤ 1000000) : Builtin.Range.rangeFitsLong x = true := by
  unfold Builtin.Range.rangeFitsLong
  rw [Bool.and_eq_true, decide_eq_true_iff, decide_eq_true_iff]
  omega
theorem rgC3 {n : Nat} (h : n ≤ 1000) (hm : n % 3 = 0) : RgC 0 (n : Int) 3 (n / 3) := by
  refine ⟨by decide, by decide, ?_, size3 hm⟩
  unfold Builtin.Range.small
  rw [size3 hm, fits (by omega) (by omega), fits (by omega) (by omega), fits (by omega) (by omega), fits (by omega) (by omega), if_pos (by decide), fits (by omega) (by omega), Bool.or_true]
  rfl
/-- in a list of natural numbers -/
def spLol (K : PySem.W.Frag) : Sp := fun vs H Q _ => ∃ (p : Addr) (xs : List Nat), vs = [.ref p] ∧ SqL K H p (nl xs) ∧ xs.length ≤ 1000 ∧ Q (.bl (lotsOk xs)) H
theorem ok_lol {f f2 : Addr} {fd fd2 : FuncData} (F : Fun K "lots_in_limits" "lots_in_limits" sLol f fd) (T : Txt K mg C)
    (F2 : Fun K "lot_in_limits" "lot_in_limits" sLl f2 fd2) (b2 : Binds K fd2 ["first", "last", "amount"] []) (g2 : mg "lot_in_limits" = some (.ref f2)) : FnOk P w K mg base CX0 2 f fd ["lots"] (spLol K) := by
  obtain ⟨t3, g3⟩ := T.n3
  obtain ⟨t6, g6⟩ := T.n6
  have G2 : FnOk P w K mg base CX0 1 f2 fd2 ["first", "last", "amount"] spLl := ok_ll F2 T
  refine F.ok scLol (fun vs H Q E h => ?_) (fun cdv A outer s H vs Q E hr h => ?_)
  · obtain ⟨p, xs, rfl, _⟩ := h
    rfl
  · obtain ⟨p, xs, rfl, hS, hlen, q⟩ := h
    refine ⟨_, pss_cons (ps_if (PW.pt (pw_or (pt_cmpR op_ne (pe_op op_mod (pe_callB call_len_seq (by rfl) T.len PySem.boot_len (pa_cons (pv 0) pa_nil)) (pe_glob (v := .int 3) rfl g3 ⟨_, rfl⟩)) pe_int (nomark _))
          (pw_or1 (pt_cmpR op_gt (pe_callB call_len_seq (by rfl) T.len PySem.boot_len (pa_cons (pv 0) pa_nil)) (pe_op op_mul (pe_glob (v := .int 6) rfl g6 ⟨_, rfl⟩) (pe_glob (v := .int 3) rfl g3 ⟨_, rfl⟩)) (nomark _)))))
        (pss_one (ps_ret pe_bl)) pss_nil)
      (pss_cons (ps_for PassesOwn.never rfl (pi_range3 rfl T.range (pa_cons pe_int (pa_cons (pe_callB call_len_seq (by rfl) T.len PySem.boot_len (pa_cons (pv 0) pa_nil)) (pa_cons (pe_glob (v := .int 3) rfl g3 ⟨_, rfl⟩) pa_nil)))) (pg_name (i := 1) scLol.nd rfl (Or.inl rfl))
        (pss_one (ps_if (pt_not (pt_val (pe_call G2 hr rfl g2 F2.kp b2 .nil pass0 (pa_cons (pe_ix ix_list (pv 0) (pv 1) (fun _ _ => rfl)) (pa_cons (pe_ix ix_list (pv 0) (pe_op op_add (pv 1) pe_int) (fun _ _ => rfl)) (pa_cons (pe_ix ix_list (pv 0) (pe_op op_add (pv 1) pe_int) (fun _ _ => rfl)) pa_nil))))))
          (pss_one (ps_ret pe_bl)) pss_nil)))
      (pss_one (ps_ret pe_bl))), ?_⟩
    have lenE : ((nl xs).length : Int) = (xs.length : Int) := by rw [nl_len]
    refine ⟨_, rfl, p, _, rfl, .inl hS, _, _, rfl, rfl, (show (0 : Int) < 3 by decide), ?_⟩
    have false_of : lotsOk xs = false → Q (.bl false) H := fun e => by
      rw [e] at q
      exact q
    have go : xs.length % 3 = 0 → xs.length ≤ 18 → tSeq (tFor (iRng3 (tCons (tC (.int 0)) (tCons (tCB (fun ys H Q => ∃ p zs, ys = [.ref p] ∧ (SqL K H p zs ∨ SqT K H p zs) ∧ Q (.int zs.length) H) (tCons (tVar 0) tNil)) (tCons (tC (.int 3)) tNil)))) (gName 1)
        (tIfS (tNot (tB (tCall spLl [] E0 (tCons (tOp (rIxL K) (tVar 0) (tVar 1)) (tCons (tOp (rIxL K) (tVar 0) (tOp (rI0 fun i j => .int (i + j)) (tVar 1) (tC (.int 1)))) (tCons (tOp (rIxL K) (tVar 0) (tOp (rI0 fun i j => .int (i + j)) (tVar 1) (tC (.int 2)))) tNil)))))) (tRet (tC (.bl false))) tNext))
        (tRet (tC (.bl true))) { nx := fun _ H' => Q .non H', rt := Q } (L2.start ["lots", "start"] [.ref p]) H := fun hm h18 => by
      have lenD : (xs.length : Int) = ((xs.length : Nat) : Int) := rfl
      refine ⟨_, rfl, p, _, rfl, .inl hS, 0, ((nl xs).length : Int), 3, xs.length / 3, rfl, (by rw [nl_len]; exact rgC3 hlen hm), ?_⟩
      refine for_rangeC (lo := 0) (c := 3) (n := xs.length / 3) (fun i σ H' => H' = H ∧ (∃ v, σ = [some (.ref p), v]) ∧ okTriples (xs.drop (3 * i)) = okTriples xs) ⟨rfl, ⟨none, rfl⟩, rfl⟩ (fun i σ H' hi ⟨hH, ⟨v, hσ⟩, ho⟩ => ?_) (fun σ H' ⟨hH, ⟨v, hσ⟩, ho⟩ => ?_)
      · subst hH hσ
        have hb : 3 * i + 2 < xs.length := by omega
        have e0 : (0 : Int) + (i : Int) * 3 = ((3 * i : Nat) : Int) := by omega
        have d := ok_drop hb
        rw [e0]
        refine ⟨_, rfl, _, rfl, p, _, _, _, rfl, rfl, hS, nl_at (3 * i) rfl (by omega), _, rfl, _, rfl, _, _, rfl, rfl, p, _, _, _, rfl, rfl, hS, nl_at (3 * i + 1) rfl (by omega),
          _, rfl, _, rfl, _, _, rfl, rfl, p, _, _, _, rfl, rfl, hS, nl_at (3 * i + 2) rfl (by omega), _, _, _, rfl, _, rfl, ?_⟩
        cases c : okTriple (xs.getD (3 * i) 0) (xs.getD (3 * i + 1) 0) (xs.getD (3 * i + 2) 0) with
        | false =>
          rw [c, Bool.false_and, ho] at d
          refine iteT (false_of ?_)
          unfold lotsOk
          rw [d, Bool.and_false]
        | true =>
          rw [c, Bool.true_and, ho] at d
          exact iteF ⟨rfl, ⟨_, rfl⟩, d.symm⟩
      · subst hH hσ
        have e : lotsOk xs = true := by
          have hd : xs.drop (3 * (xs.length / 3)) = [] := List.drop_eq_nil_of_le (by omega)
          rw [hd] at ho
          unfold lotsOk
          rw [← ho, decide_eq_true hm, decide_eq_true h18]
          rfl
        rw [e] at q
        exact q
    refine ⟨rfl, _, rfl, ?_⟩
    by_cases hm : xs.length % 3 = 0
    · have e1 : (!decide (V.int (((nl xs).length : Int) % 3) = V.int 0)) = false := by
        rw [nl_len, decide_eq_true (congrArg V.int (show ((xs.length : Int)) % 3 = 0 by omega))]
        rfl
      refine if_false_of' e1 ?_
      refine ⟨_, rfl, p, _, rfl, .inl hS, _, _, rfl, rfl, .inl ⟨by decide, by decide⟩, _, _, rfl, rfl, _, rfl, ?_⟩
      by_cases h18 : xs.length ≤ 18
      · refine if_false_of' (decide_eq_false ?_) (go hm h18)
        rw [nl_len]
        show ¬ (6 * 3 : Int) < (xs.length : Int)
        omega
      · refine if_true_of' (decide_eq_true ?_) (false_of ?_)
        · rw [nl_len]
          show (6 * 3 : Int) < (xs.length : Int)
          omega
        · unfold lotsOk
          rw [decide_eq_false h18, Bool.and_false, Bool.false_and]
    · have e1 : (!decide (V.int (((nl xs).length : Int) % 3) = V.int 0)) = true := by
        rw [nl_len, decide_eq_false (fun z => hm (by
          have := V.int.inj z
          omega))]
        rfl
      refine if_true_of' e1 (if_true_of' rfl (false_of ?_))
      unfold lotsOk
      rw [decide_eq_false hm, Bool.false_and, Bool.false_and]
/-! ### demand_in_limits -/
def spDl (K : PySem.W.Frag) : Sp := fun vs H Q _ => ∃ (p : Addr) (ds : List Nat), vs = [.ref p] ∧ SqL K H p (nl ds) ∧ Q (.bl (demandOk ds)) H
theorem ok_dl {f : Addr} {fd : FuncData} (F : Fun K "demand_in_limits" "demand_in_limits" sDl f fd) (T : Txt K mg C) : FnOk P w K mg base CX0 1 f fd ["demand"] (spDl K) := by
  obtain ⟨t10, g10⟩ := T.n10
  obtain ⟨tM, gM⟩ := T.nM
  refine F.ok scDl (fun vs H Q E h => ?_) (fun cdv A outer s H vs Q E hr h => ?_)
  · obtain ⟨p, ds, rfl, _⟩ := h
    rfl
  · obtain ⟨p, ds, rfl, hS, q⟩ := h
    refine ⟨_, pss_one (ps_ret (pe_and (pe_chain op_le op_le pe_int (pe_callB call_len_seq (by rfl) T.len PySem.boot_len (pa_cons (pv 0) pa_nil)) (pe_glob (v := .int 10) rfl g10 ⟨_, rfl⟩))
      (pe_one (pe_cmpR op_le (pe_callB (cr_max rfl) (by rfl) T.max (by decide +kernel) (pa_cons (pv 0) pa_nil)) (pe_glob (v := .int 99) rfl gM ⟨_, rfl⟩) (nomark _))))), ?_⟩
    have false_of : demandOk ds = false → Q (.bl false) H := fun e => by
      rw [e] at q
      exact q
    refine ⟨_, rfl, p, _, rfl, .inl hS, _, _, rfl, rfl, _, rfl, ite2 (fun c1 => ⟨_, _, rfl, rfl, _, rfl, ite2 (fun c2 => ?_) (fun c2 => false_of ?_)⟩) (fun c1 => ⟨_, rfl, iteF (false_of ?_)⟩)⟩
    · have l1 := of_decide_eq_true c1
      have l2 := of_decide_eq_true c2
      rw [nl_len] at l1 l2
      refine ⟨_, rfl, p, ds.map Int.ofNat, rfl, hS, (by rw [List.length_map]; omega), fun m hm hle => ⟨_, _, rfl, rfl, ?_⟩⟩
      have e : demandOk ds = decide (m ≤ 99) := by
        unfold demandOk
        rw [decide_eq_true (by omega), decide_eq_true (by omega), Bool.true_and, Bool.true_and]
        obtain ⟨k, hk, rfl⟩ := List.mem_map.mp hm
        by_cases h9 : k ≤ 99
        · rw [decide_eq_true (show Int.ofNat k ≤ 99 from Int.ofNat_le.mpr h9), List.all_eq_true]
          intro x hx
          have := hle (Int.ofNat x) (List.mem_map.mpr ⟨x, hx, rfl⟩)
          have : x ≤ k := Int.ofNat_le.mp this
          exact (decide_eq_true (by omega))
        · rw [decide_eq_false (show ¬ Int.ofNat k ≤ 99 from fun z => h9 (Int.ofNat_le.mp z)), Bool.eq_false_iff]
          intro z
          have := of_decide_eq_true (List.all_eq_true.mp z k hk)
          omega
      rw [e] at q
      exact q
    · have l2 : ¬ ((nl ds).length : Int) ≤ 10 := fun z => c2 (decide_eq_true z)
      rw [nl_len] at l2
      unfold demandOk
      rw [decide_eq_false (show ¬ ds.length ≤ 10 by omega), Bool.and_false, Bool.false_and]
    · have l2 : ¬ (1 : Int) ≤ ((nl ds).length : Int) := fun z => c1 (decide_eq_true z)
      rw [nl_len] at l2
      unfold demandOk
      rw [decide_eq_false (show ¬ 1 ≤ ds.length by omega), Bool.false_and, Bool.false_and]
/-! ### stock_in_limits -/
def spSl (K : PySem.W.Frag) : Sp := fun vs H Q _ => ∃ (p d : Addr) (xs ds : List Nat), vs = [.ref p, .ref d] ∧ SqL K H p (nl xs) ∧ SqL K H d (nl ds) ∧ xs.length ≤ 1000 ∧ Q (.bl (stockOk xs ds)) H
theorem ok_sl {f f1 f2 f3 : Addr} {fd fd1 fd2 fd3 : FuncData} (F : Fun K "stock_in_limits" "stock_in_limits" sSl f fd) (T : Txt K mg C)
    (F1 : Fun K "lots_in_limits" "lots_in_limits" sLol f1 fd1) (b1 : Binds K fd1 ["lots"] []) (g1 : mg "lots_in_limits" = some (.ref f1))
    (F2 : Fun K "lot_in_limits" "lot_in_limits" sLl f2 fd2) (b2 : Binds K fd2 ["first", "last", "amount"] []) (g2 : mg "lot_in_limits" = some (.ref f2))
    (F3 : Fun K "demand_in_limits" "demand_in_limits" sDl f3 fd3) (b3 : Binds K fd3 ["demand"] []) (g3 : mg "demand_in_limits" = some (.ref f3)) : FnOk P w K mg base CX0 3 f fd ["lots", "demand"] (spSl K) := by
  have G1 : FnOk P w K mg base CX0 2 f1 fd1 ["lots"] (spLol K) := ok_lol F1 T F2 b2 g2
  have G3 : FnOk P w K mg base CX0 1 f3 fd3 ["demand"] (spDl K) := ok_dl F3 T
  refine F.ok scSl (fun vs H Q E h => ?_) (fun cdv A outer s H vs Q E hr h => ?_)
  · obtain ⟨p, d, xs, ds, rfl, _⟩ := h
    rfl
  · obtain ⟨p, d, xs, ds, rfl, hS, hD, hl, q⟩ := h
    refine ⟨_, pss_one (ps_ret (pe_and (pe_call G1 hr rfl g1 F1.kp b1 .nil pass0 (pa_cons (pv 0) pa_nil)) (pe_one (pe_call G3 (hr.mono (by decide)) rfl g3 F3.kp b3 .nil pass0 (pa_cons (pv 1) pa_nil))))), ?_⟩
    refine ⟨_, rfl, p, xs, rfl, hS, hl, _, rfl, ?_⟩
    unfold stockOk at q
    cases c1 : lotsOk xs with
    | false =>
      rw [c1, Bool.false_and] at q
      exact iteF q
    | true =>
      rw [c1, Bool.true_and] at q
      exact iteT ⟨_, rfl, d, ds, rfl, hD, q⟩
/-! ### out_of_limits -/
def spOut : Sp := fun vs H Q _ => vs = [] ∧ ∀ l, H l = none → Q (.ref l) (upd H l (.lst [.int (-22)]))
theorem ok_out {f : Addr} {fd : FuncData} (F : Fun K "out_of_limits" "out_of_limits" sOut f fd) : FnOk P w K mg base CX0 1 f fd [] spOut := by
  refine F.ok scOut (fun vs H Q E h => ?_) (fun cdv A outer s H vs Q E hr h => ?_)
  · rw [h.1]
    rfl
  · obtain ⟨rfl, q⟩ := h
    refine ⟨_, pss_one (ps_ret (pe_lst (pa_cons (pe_un un_neg pe_int) pa_nil))), ?_⟩
    exact ⟨_, rfl, (by show 1 ≤ sizeLine; decide), fun l hl => q l hl⟩
end
end Fl
set_option Elab.async false
set_option linter.all false
set_option maxRecDepth 100000
set_option maxHeartbeats 4100000
namespace Fl
open PySem PySem.Spec PyProof.Rows L2
open Ks594 (Lot Stock)
/-! ### a comprehension, a loop over whatever is walked: n turns, what holds ahead of each -/
/-- one item of a comprehension: bound, tested, and if it is kept laid onto the list at D -/
abbrev Item (g : TG) (tt : TT) (te : TE) (own : List Nat) (slots : L2.St) (D : Addr) (then_ : Hp → Prop) (x : V) (Ha : Hp) : Prop :=
  g x (wipe slots own) Ha fun s2 Hb => wipe s2 own = wipe slots own ∧ tt s2 Hb fun keep Hc => if keep = true then (te s2 Hc fun y Hd => ∃ done, Hd D = some (.lst done) ∧ done.length < sizeLine ∧ then_ (upd Hd D (.lst (done ++ [y])))) else then_ Hc
/-- that the comprehension's list is made, and what comes after it -/
abbrev Made (J : It) (g : TG) (tt : TT) (te : TE) (own : List Nat) (slots : L2.St) (H0 : Hp) (D : Addr) (after : Hp → Prop) : Prop :=
  ∃ W : Nat → Nat → Hp → Prop, (∃ m, W 0 m (upd H0 D (.lst []))) ∧ ∀ i m Ha, W i m Ha → (J.stop i Ha ∧ after Ha) ∨ (J.go i Ha ∧ ∃ next : Hp → Prop, (∀ Hb, next Hb → ∃ m', m' < m ∧ W (i + 1) m' Hb) ∧ ∀ x Hb, J.yld i Ha x Hb → Item g tt te own slots D next x Hb)
/-- that the loop is gone through -/
abbrev Gone (J : It) (g : TG) (body : TS) (ways : Ends) (slots : L2.St) (H0 : Hp) : Prop :=
  ∃ W : Nat → Nat → L2.St → Hp → Prop, (∃ m, W 0 m slots H0) ∧ ∀ i m ss Ha, W i m ss Ha → (J.stop i Ha ∧ ways.nx ss Ha) ∨ (J.go i Ha ∧ ∃ next : L2.St → Hp → Prop, (∀ s2 Hb, next s2 Hb → ∃ m', m' < m ∧ W (i + 1) m' s2 Hb) ∧ ∀ x Hb, J.yld i Ha x Hb → g x ss Hb fun s2 Hc => body { ways with nx := next, ct := next, bk := ways.nx } s2 Hc)
/-- the list that a comprehension makes, by what holds ahead of each of its n turns -/
theorem comp_by {J : It} {g : TG} {tt : TT} {te : TE} {own : List Nat} {slots : L2.St} {H0 : Hp} {D : Addr} {after : Hp → Prop} (n : Nat) (Holds : Nat → Hp → Prop) (first : Holds 0 (upd H0 D (.lst [])))
    (more : ∀ i Ha, i < n → Holds i Ha → J.go i Ha ∧ ∀ x Hb, J.yld i Ha x Hb → Item g tt te own slots D (Holds (i + 1)) x Hb) (ended : ∀ Ha, Holds n Ha → J.stop n Ha ∧ after Ha) :
    Made J g tt te own slots H0 D after := by
  refine ⟨fun i left Ha => i + left = n ∧ Holds i Ha, ⟨n, by omega, first⟩, fun i left Ha ⟨sum, now⟩ => ?_⟩
  rcases Nat.eq_zero_or_pos left with none_left | some_left
  · obtain rfl : i = n := by omega
    exact .inl (ended Ha now)
  · obtain ⟨goes, body⟩ := more i Ha (by omega) now
    exact .inr ⟨goes, Holds (i + 1), fun Hb q => ⟨left - 1, by omega, by omega, q⟩, body⟩
/-- a for loop, the same way -/
theorem loop_by {J : It} {g : TG} {body : TS} {ways : Ends} {slots : L2.St} {H0 : Hp} (n : Nat) (Holds : Nat → L2.St → Hp → Prop) (first : Holds 0 slots H0)
    (more : ∀ i ss Ha, i < n → Holds i ss Ha → J.go i Ha ∧ ∀ x Hb, J.yld i Ha x Hb → g x ss Hb fun s2 Hc => body { ways with nx := Holds (i + 1), ct := Holds (i + 1), bk := ways.nx } s2 Hc) (ended : ∀ ss Ha, Holds n ss Ha → J.stop n Ha ∧ ways.nx ss Ha) :
    Gone J g body ways slots H0 := by
  refine ⟨fun i left ss Ha => i + left = n ∧ Holds i ss Ha, ⟨n, by omega, first⟩, fun i left ss Ha ⟨sum, now⟩ => ?_⟩
  rcases Nat.eq_zero_or_pos left with none_left | some_left
  · obtain rfl : i = n := by omega
    exact .inl (ended ss Ha now)
  · obtain ⟨goes, each⟩ := more i ss Ha (by omega) now
    exact .inr ⟨goes, Holds (i + 1), fun s2 Hb q => ⟨left - 1, by omega, by omega, q⟩, each⟩
/-- .. over range(lo, .., c) -/
theorem comp_steps {lo c : Int} {g : TG} {tt : TT} {te : TE} {own : List Nat} {slots : L2.St} {H0 : Hp} {D : Addr} {after : Hp → Prop} (n : Nat) (Holds : Nat → Hp → Prop) (first : Holds 0 (upd H0 D (.lst [])))
    (each : ∀ i Ha, i < n → Holds i Ha → Item g tt te own slots D (Holds (i + 1)) (.int (lo + (i : Nat) * c)) Ha) (ended : ∀ Ha, Holds n Ha → after Ha) : Made (Itc lo c n) g tt te own slots H0 D after :=
  comp_by (J := Itc lo c n) (g := g) (tt := tt) (te := te) (own := own) (slots := slots) (after := after) n Holds first
    (fun i Ha hi now => ⟨hi, fun x Hb y => by
      obtain ⟨rfl, rfl⟩ := y
      exact each i _ hi now⟩) fun Ha now => ⟨Nat.le_refl n, ended Ha now⟩
/-- .. over zip of two lists of one length: each pair is a new tuple -/
theorem comp_pairs {K : PySem.W.Frag} {a b : Addr} {us vs : List V} {g : TG} {tt : TT} {te : TE} {own : List Nat} {slots : L2.St} {H0 : Hp} {D : Addr} {after : Hp → Prop} (same : us.length = vs.length) (Holds : Nat → Hp → Prop) (first : Holds 0 (upd H0 D (.lst [])))
    (stand : ∀ i Ha, Holds i Ha → SqL K Ha a us ∧ SqL K Ha b vs)
    (each : ∀ (i : Nat) (u v : V) (T : Addr) (Ha : Hp), us[i]? = some u → vs[i]? = some v → Holds i Ha → Ha T = none → Item g tt te own slots D (Holds (i + 1)) (.ref T) (upd Ha T (.tup [u, v]))) (ended : ∀ Ha, Holds us.length Ha → after Ha) : Made (Itz K a b) g tt te own slots H0 D after :=
  comp_by (J := Itz K a b) (g := g) (tt := tt) (te := te) (own := own) (slots := slots) (after := after) us.length Holds first
    (fun i Ha hi now => ⟨⟨us, vs, us[i], vs[i], (stand i Ha now).1, (stand i Ha now).2, List.getElem?_eq_getElem hi, List.getElem?_eq_getElem (same ▸ hi)⟩, fun x Hb y => by
      obtain ⟨T, u, v, rfl, fresh, rfl, hu, hv⟩ := y
      exact each i u v T Ha (hu _ (stand i Ha now).1) (hv _ (stand i Ha now).2) now fresh⟩)
    fun Ha now => ⟨⟨us, vs, (stand _ Ha now).1, (stand _ Ha now).2, .inl (Nat.le_refl _)⟩, ended Ha now⟩
/-- a for loop over enumerate of a list -/
theorem loop_count {K : PySem.W.Frag} {a : Addr} {us : List V} {g : TG} {body : TS} {ways : Ends} {slots : L2.St} {H0 : Hp} (Holds : Nat → L2.St → Hp → Prop) (first : Holds 0 slots H0) (stand : ∀ i ss Ha, Holds i ss Ha → SqL K Ha a us)
    (each : ∀ (i : Nat) (u : V) (T : Addr) (ss : L2.St) (Ha : Hp), us[i]? = some u → Holds i ss Ha → Ha T = none → g (.ref T) ss (upd Ha T (.tup [.int (i : Nat), u])) fun s2 Hc => body { ways with nx := Holds (i + 1), ct := Holds (i + 1), bk := ways.nx } s2 Hc)
    (ended : ∀ ss Ha, Holds us.length ss Ha → ways.nx ss Ha) : Gone (Ite K a) g body ways slots H0 :=
  loop_by (J := Ite K a) (g := g) (body := body) (ways := ways) us.length Holds first
    (fun i ss Ha hi now => ⟨⟨us, us[i], stand i ss Ha now, List.getElem?_eq_getElem hi⟩, fun x Hb y => by
      obtain ⟨T, u, rfl, fresh, rfl, hu⟩ := y
      exact each i u T ss Ha (hu _ (stand i ss Ha now)) now fresh⟩)
    fun ss Ha now => ⟨⟨us, stand _ ss Ha now, Nat.le_refl _⟩, ended ss Ha now⟩
/-! ### a lot, a stock -/
def lF (l : Lot) : List (Str × V) := [("first", .int (l.first : Int)), ("last", .int (l.last : Int)), ("amount", .int (l.amount : Int))]
def LotAt (C : Addr) (H : Hp) (a : Addr) (l : Lot) : Prop := ∃ dx, H a = some (.ins C dx (lF l))
theorem lk_here {k : Str} {v : V} {r : List (Str × V)} : List.lookup k ((k, v) :: r) = some v := by
  have e : (k == k) = true := beq_self_eq_true k
  simp only [List.lookup, e]
theorem lk_past {k g : Str} {v : V} {r : List (Str × V)} (h : (k == g) = false) : List.lookup k ((g, v) :: r) = List.lookup k r := by
  simp only [List.lookup, h]
theorem put_past {f g : Str} {v x : V} {r : List (Str × V)} (h : ¬ g = f) : putF f v ((g, x) :: r) = (g, x) :: putF f v r := if_neg h
theorem lF_first (l : Lot) : (lF l).lookup ("first" : Str) = some (.int (l.first : Int)) := lk_here
theorem lF_last (l : Lot) : (lF l).lookup ("last" : Str) = some (.int (l.last : Int)) := (lk_past (by decide +kernel)).trans lk_here
theorem lF_amount (l : Lot) : (lF l).lookup ("amount" : Str) = some (.int (l.amount : Int)) := (lk_past (by decide +kernel)).trans ((lk_past (by decide +kernel)).trans lk_here)
theorem lF_new (f l a : Nat) : putF "amount" (.int (a : Int)) (putF "last" (.int (l : Int)) (putF "first" (.int (f : Int)) [])) = lF ⟨f, l, a⟩ := by
  have e1 : putF "last" (.int (l : Int)) (putF "first" (V.int (f : Int)) []) = [(("first" : Str), V.int (f : Int)), (("last" : Str), V.int (l : Int))] := (put_past (by decide +kernel)).trans rfl
  rw [e1]
  exact (put_past (by decide +kernel)).trans (congrArg _ ((put_past (by decide +kernel)).trans rfl))
theorem LotAt.same {C a : Addr} {H H' : Hp} {l : Lot} (h : LotAt C H a l) (s : Same H H') : LotAt C H' a l := by
  obtain ⟨dx, h⟩ := h
  exact ⟨dx, s _ _ h⟩
/-- the list at p holds the lots ls -/
structure StockAt (K : PySem.W.Frag) (C : Addr) (H : Hp) (p : Addr) (ls : List Lot) (as : List Addr) : Prop where
  lst : SqL K H p (as.map V.ref)
  len : as.length = ls.length
  lot : ∀ (i : Nat) (a : Addr) (l : Lot), as[i]? = some a → ls[i]? = some l → LotAt C H a l
theorem StockAt.same {K : PySem.W.Frag} {C p : Addr} {H H' : Hp} {ls : List Lot} {as : List Addr} (h : StockAt K C H p ls as) (s : Same H H') : StockAt K C H' p ls as :=
  ⟨s.seq h.lst, h.len, fun i a l e1 e2 => (h.lot i a l e1 e2).same s⟩
theorem StockAt.get {K : PySem.W.Frag} {C p : Addr} {H : Hp} {ls : List Lot} {as : List Addr} (h : StockAt K C H p ls as) {i : Nat} (hi : i < ls.length) : ∃ a, (as.map V.ref)[i]? = some (.ref a) ∧ LotAt C H a (ls.getD i ⟨0, 0, 0⟩) := by
  have hi2 : i < as.length := by rw [h.len]; exact hi
  refine ⟨as[i], ?_, h.lot i _ _ (List.getElem?_eq_getElem hi2) ?_⟩
  · rw [List.getElem?_map, List.getElem?_eq_getElem hi2]; rfl
  · rw [List.getD_eq_getElem?_getD, List.getElem?_eq_getElem hi]; rfl
theorem scInit : FnScope ["self", "first", "last", "amount"] ["self", "first", "last", "amount"] (defScope sInit) := ⟨rfl, rfl, rfl, by decide +kernel, rfl, by decide +kernel, by decide +kernel⟩
theorem scRead : FnScope ["lots", "start"] ["lots"] (defScope sRead) := ⟨rfl, rfl, rfl, by decide +kernel, rfl, by decide +kernel, by decide +kernel⟩
theorem scUse : FnScope ["self", "week"] ["self", "week"] (defScope sUse) := ⟨rfl, rfl, rfl, by decide +kernel, rfl, by decide +kernel, by decide +kernel⟩
section
variable {P : Program} {w : World} {K : PySem.W.Frag} {mg : Str → Option Value} {base : Heap} {C : Addr}
/-! ### Lot.__init__ -/
def spInit (C : Addr) : Sp := fun vs H Q _ => ∃ (p dx : Addr) (f l a : Nat), vs = [.ref p, .int f, .int l, .int a] ∧ H p = some (.ins C dx []) ∧
  ∀ H' : Hp, LotAt C H' p ⟨f, l, a⟩ → (∀ b o, H b = some o → b ≠ p → H' b = some o) → Q .non H'
theorem ok_init {f : Addr} {fd : FuncData} (F : Fun K "__init__" "Lot.__init__" sInit f fd) (T : Txt K mg C) : FnOk P w K mg base CX0 1 f fd ["self", "first", "last", "amount"] (spInit C) := by
  refine F.ok scInit (fun vs H Q E h => ?_) (fun cdv A outer s H vs Q E hr h => ?_)
  · obtain ⟨p, dx, f, l, a, rfl, _⟩ := h
    rfl
  · obtain ⟨p, dx, f, l, a, rfl, hp, k⟩ := h
    refine ⟨_, pss_cons (ps_fld (pv 0) (pv 1) rfl) (pss_cons (ps_fld (pv 0) (pv 2) rfl) (pss_one (ps_fld (pv 0) (pv 3) rfl))), ?_⟩
    refine ⟨_, rfl, _, rfl, p, C, dx, [], rfl, hp, T.cl, T.nF, (by show 0 < 1000; decide), ?_⟩
    refine ⟨_, rfl, _, rfl, p, C, dx, _, rfl, upd_same, T.cl, T.nL, (by show 1 < 1000; decide), ?_⟩
    refine ⟨_, rfl, _, rfl, p, C, dx, _, rfl, upd_same, T.cl, T.nA, (by show 2 < 1000; decide), ?_⟩
    exact k _ ⟨dx, Eq.trans upd_same (congrArg (fun q => some (HO.ins C dx q)) (lF_new f l a))⟩ fun b o e hb => by
      rw [upd_ne hb, upd_ne hb, upd_ne hb]
      exact e
/-! ### Lot.usable_in -/
theorem lF_use (l : Lot) : (lF l).lookup ("usable_in" : Str) = none := (lk_past (by decide +kernel)).trans ((lk_past (by decide +kernel)).trans ((lk_past (by decide +kernel)).trans rfl))
def spUse (C : Addr) : Sp := fun vs H Q _ => ∃ (p : Addr) (l : Lot) (w : Nat), vs = [.ref p, .int w] ∧ LotAt C H p l ∧ Q (.bl (usesIn l w)) H
theorem ok_use {f : Addr} {fd : FuncData} (F : Fun K "usable_in" "Lot.usable_in" sUse f fd) (T : Txt K mg C) : FnOk P w K mg base CX0 1 f fd ["self", "week"] (spUse C) := by
  refine F.ok scUse (fun vs H Q E h => ?_) (fun cdv A outer s H vs Q E hr h => ?_)
  · obtain ⟨p, l, w, rfl, _⟩ := h
    rfl
  · obtain ⟨p, l, w, rfl, ⟨dx, hp⟩, k⟩ := h
    refine ⟨_, pss_one (ps_ret (pe_chain op_le op_le (pe_fld (pv 0) rfl) (pv 1) (pe_fld (pv 0) rfl))), ?_⟩
    refine ⟨_, rfl, p, C, dx, _, _, rfl, hp, T.cl, T.nF, lF_first _, _, rfl, _, _, rfl, rfl, _, rfl, ite2 (fun c1 => ?_) (fun c1 => ?_)⟩
    · have c1' := of_decide_eq_true c1
      refine ⟨_, rfl, p, C, dx, _, _, rfl, hp, T.cl, T.nL, lF_last _, _, _, rfl, rfl, ?_⟩
      have e : usesIn l w = decide ((w : Int) ≤ (l.last : Int)) := by
        unfold usesIn
        rw [decide_eq_true (show l.first ≤ w by omega), Bool.true_and]
        by_cases h : w ≤ l.last
        · rw [decide_eq_true h, decide_eq_true (by omega)]
        · rw [decide_eq_false h, decide_eq_false (by omega)]
      rw [e] at k
      exact k
    · have c1' : ¬ (l.first : Int) ≤ (w : Int) := fun z => c1 (decide_eq_true z)
      have e : usesIn l w = false := by
        unfold usesIn
        rw [decide_eq_false (show ¬ l.first ≤ w by omega), Bool.false_and]
      rw [e] at k
      exact k
/-! ### read_lots -/
theorem LotAt.past {H : Hp} {a D : Addr} {l : Lot} {xs : List V} {o : HO} (h : LotAt C H a l) (hD : H D = some (.lst xs)) : LotAt C (upd H D o) a l := by
  obtain ⟨dx, h⟩ := h
  refine ⟨dx, ?_⟩
  rw [upd_ne]
  · exact h
  · intro e
    rw [e, hD] at h
    cases h
def spRead (K : PySem.W.Frag) (C : Addr) : Sp := fun vs H Q _ => ∃ (p : Addr) (xs : List Nat), vs = [.ref p] ∧ SqL K H p (nl xs) ∧ xs.length ≤ 1000 ∧ okTriples xs = true ∧
  ∀ (H' : Hp) (q : Addr) (as : List Addr), Same H H' → StockAt K C H' q (lotsOf xs) as → H q = none → Q (.ref q) H'
theorem ok_read {f fI : Addr} {fd fdI : FuncData} (F : Fun K "read_lots" "read_lots" sRead f fd) (T : Txt K mg C) (M : Mk K C fI) (FI : Fun K "__init__" "Lot.__init__" sInit fI fdI) (bI : Binds K fdI ["self", "first", "last", "amount"] []) :
    FnOk P w K mg base CX0 3 f fd ["lots"] (spRead K C) := by
  obtain ⟨t3, g3⟩ := T.n3
  have GI : FnOk P w K mg base CX0 1 fI fdI ["self", "first", "last", "amount"] (spInit C) := ok_init FI T
  refine F.ok scRead (fun vs H Q E h => ?_) (fun cdv A outer s H vs Q E hr h => ?_)
  · obtain ⟨p, xs, rfl, _⟩ := h
    rfl
  · obtain ⟨p, xs, rfl, hS, hlen, hok, k⟩ := h
    refine ⟨_, pss_one (ps_ret (pe_lc (own := [("start", 1)]) (g := gName 1) (tt := tYes) (te := tMake C (spInit C) [] E0 (tCons (tOp (rIxL K) (tVar 0) (tVar 1)) (tCons (tOp (rIxL K) (tVar 0) (tOp (rI0 fun i j => .int (i + j)) (tVar 1) (tC (.int 1)))) (tCons (tOp (rIxL K) (tVar 0) (tOp (rI0 fun i j => .int (i + j)) (tVar 1) (tC (.int 2)))) tNil)))) rfl scRead.nd
      (pi_range3 rfl T.range (pa_cons pe_int (pa_cons (pe_callB call_len_seq (by rfl) T.len PySem.boot_len (pa_cons (pv 0) pa_nil)) (pa_cons (pe_glob (v := .int 3) rfl g3 ⟨_, rfl⟩) pa_nil))))
      (blkOk_by (N := ["lots", "start"]) (sc := defScope sRead) (by decide +kernel))
      (fun _ _ _ _ _ => pg_name (i := 1) scRead.nd rfl (Or.inl rfl)) (fun _ _ _ _ _ => pts_nil)
      (fun _ _ _ _ _ => pe_make M GI hr rfl T.gC bI .nil pass0 (pa_cons (pe_ix ix_list (pv 0) (pv 1) (fun _ _ => rfl)) (pa_cons (pe_ix ix_list (pv 0) (pe_op op_add (pv 1) pe_int) (fun _ _ => rfl)) (pa_cons (pe_ix ix_list (pv 0) (pe_op op_add (pv 1) pe_int) (fun _ _ => rfl)) pa_nil)))))), ?_⟩
    have hm := ok_mod xs hok
    refine ⟨_, rfl, p, _, rfl, .inl hS, 0, ((nl xs).length : Int), 3, xs.length / 3, rfl, (by rw [nl_len]; exact rgC3 hlen hm), fun D hD => ?_⟩
    refine comp_steps (lo := 0) (c := 3) (xs.length / 3) (fun i H' => Same H H' ∧ ∃ as : List Addr, H' D = some (.lst (as.map V.ref)) ∧ as.length = i ∧ ∀ (j : Nat) (a : Addr) (l : Lot), as[j]? = some a → (lotsOf xs)[j]? = some l → LotAt C H' a l)
      ⟨same_upd hD, [], upd_same, rfl, fun j a l e => by simp at e⟩ (fun i H' hi ⟨s1, as, hd, hl, hlot⟩ => ?_) (fun H' ⟨s1, as, hd, hl, hlot⟩ => ?_)
    · have hb : 3 * i + 2 < xs.length := by omega
      have e0 : (0 : Int) + (i : Int) * 3 = ((3 * i : Nat) : Int) := by omega
      have hS' := s1.seq hS
      rw [e0]
      refine ⟨rfl, _, rfl, _, rfl, p, _, _, _, rfl, rfl, hS', nl_at (3 * i) rfl (by omega), _, rfl, _, rfl, _, _, rfl, rfl, p, _, _, _, rfl, rfl, hS', nl_at (3 * i + 1) rfl (by omega),
        _, rfl, _, rfl, _, _, rfl, rfl, p, _, _, _, rfl, rfl, hS', nl_at (3 * i + 2) rfl (by omega), ?_⟩
      intro x dx nx nd ne
      refine ⟨x, dx, _, _, _, rfl, upd_same, fun H2 J kp => ⟨rfl, as.map V.ref, ?_, ?_, ?_, as ++ [x], ?_, ?_, ?_⟩⟩
      · exact Same.made nx nd kp _ _ hd
      · rw [List.length_map, hl]
        exact small_line (by omega)
      · intro b o e
        rw [upd_ne (ne_of_none e hD)]
        exact Same.made nx nd kp _ _ (s1 _ _ e)
      · rw [upd_same, List.map_append]
        rfl
      · rw [List.length_append, hl]
        rfl
      · intro j a l e1 e2
        have hD2 : H2 D = some (.lst (as.map V.ref)) := Same.made nx nd kp _ _ hd
        by_cases hj : j < i
        · rw [List.getElem?_append_left (by omega)] at e1
          exact (((hlot j a l e1 e2).same (Same.made nx nd kp))).past hD2
        · rw [List.getElem?_append_right (by omega)] at e1
          have hj2 : j = i := by
            by_cases h : j - as.length < 1
            · omega
            · rw [List.getElem?_eq_none (show [x].length ≤ j - as.length from by show 1 ≤ _; omega)] at e1
              cases e1
          subst hj2
          rw [hl, Nat.sub_self] at e1
          obtain rfl : x = a := Option.some.inj e1
          rw [lots_get xs j hb] at e2
          obtain rfl := (Option.some.inj e2)
          exact J.past hD2
    · exact k H' D as s1 ⟨.inl (.inl hd), by rw [hl, lots_len], hlot⟩ hD
end
end Fl
set_option Elab.async false
set_option linter.all false
set_option maxRecDepth 100000
set_option maxHeartbeats 4100000
namespace Fl
open PySem PySem.Spec PyProof.Rows L2
open Ks594 (Lot Stock)
/-- a slice from one place to another, both within the list -/
theorem cut_between {us : List V} {i j : Int} (a n : Nat) (hi : i = (a : Int)) (hj : j = ((a + n : Nat) : Int)) (h : a + n ≤ us.length) : cutV us (some i) (some j) = (us.drop a).take n := by
  rw [hi, hj]
  unfold cutV
  rw [HT.sIx_nat, HT.sIx_nat, Nat.min_eq_left (show a ≤ us.length by omega), Nat.min_eq_left h, Nat.add_sub_cancel_left]
theorem nl_cut (xs : List Nat) (a n : Nat) : ((nl xs).drop a).take n = nl ((xs.drop a).take n) := by
  unfold nl
  rw [List.map_take, List.map_take, List.map_drop, List.map_drop]
/-- len of a name -/
abbrev tLen (K : PySem.W.Frag) (i : Nat) : TE := tCB (fun ys H Q => ∃ p zs, ys = [.ref p] ∧ (SqL K H p zs ∨ SqT K H p zs) ∧ Q (.int zs.length) H) (tCons (tVar i) tNil)
abbrev tTimes (a b : TE) : TE := tOp (rI CMul fun i j => .int (i * j)) a b
abbrev nFea : List Str := ["stock", "demand", "table", "plan", "week", "wanted", "index", "lot", "amounts"]
theorem scTil : FnScope ["table", "amount"] ["table"] (defScope sTil) := ⟨rfl, rfl, rfl, by decide +kernel, rfl, by decide +kernel, by decide +kernel⟩
theorem scUnu : FnScope ["stock", "week", "amounts", "lot", "amount"] ["stock", "week", "amounts"] (defScope sUnu) := ⟨rfl, rfl, rfl, by decide +kernel, rfl, by decide +kernel, by decide +kernel⟩
theorem scFea : FnScope ["stock", "demand", "table", "plan", "week", "wanted", "index", "lot", "amounts"] ["stock", "demand", "table"] (defScope sFea) := ⟨rfl, rfl, rfl, by decide +kernel, rfl, by decide +kernel, by decide +kernel⟩
section
variable {P : Program} {w : World} {K : PySem.W.Frag} {mg : Str → Option Value} {base : Heap} {C : Addr}
/-! ### table_in_limits -/
def spTil (K : PySem.W.Frag) : Sp := fun vs H Q _ => ∃ (p : Addr) (tb : List Nat), vs = [.ref p] ∧ SqL K H p (nl tb) ∧ tb.length ≤ 1000 ∧ ∀ H' : Hp, Same H H' → Q (.bl (tb.all fun x => decide (x ≤ 99))) H'
theorem ok_til {f : Addr} {fd : FuncData} (F : Fun K "table_in_limits" "table_in_limits" sTil f fd) (T : Txt K mg C) : FnOk P w K mg base CX0 1 f fd ["table"] (spTil K) := by
  obtain ⟨tM, gM⟩ := T.nM
  refine F.ok scTil (fun vs H Q E h => ?_) (fun cdv A outer s H vs Q E hr h => ?_)
  · obtain ⟨p, tb, rfl, _⟩ := h
    rfl
  · obtain ⟨p, tb, rfl, hS, h1000, k⟩ := h
    refine ⟨_, pss_one (ps_ret (pe_callB (cr_all rfl) (by rfl) T.all (by decide +kernel) (pa_cons
      (pe_lc (own := [("amount", 1)]) (g := gName 1) (tt := tYes) (te := tOp (rI0 fun i j => .bl (decide (i ≤ j))) (tVar 1) (tC (.int 99))) rfl scTil.nd (pi_list (pv 0))
        (blkOk_by (N := ["table", "amount"]) (sc := defScope sTil) (by decide +kernel))
        (fun _ _ _ _ _ => pg_name (i := 1) scTil.nd rfl (Or.inl rfl)) (fun _ _ _ _ _ => pts_nil) (fun _ _ _ _ _ => pe_cmpR op_le (pv 1) (pe_glob (v := .int 99) rfl gM ⟨_, rfl⟩) (nomark _))) pa_nil))), ?_⟩
    refine ⟨_, rfl, p, rfl, ⟨_, hS⟩, fun D hD => ?_⟩
    refine lc_list (K := K) (a := p) (xs := nl tb) (fun i H' => Same H H' ∧ H' D = some (.lst (((tb.take i).map fun x => decide (x ≤ 99)).map V.bl))) ⟨same_upd hD, upd_same⟩ (fun i H' _ ⟨s1, _⟩ => s1.seq hS) (fun i x H' hi ⟨s1, hl⟩ => ?_) (fun H1 ⟨s1, hl⟩ => ?_)
    · obtain ⟨hil, rfl⟩ := nl_inv hi
      refine ⟨rfl, _, rfl, _, _, rfl, rfl, _, hl, ?_, ?_, ?_⟩
      · rw [List.length_map, List.length_map, List.length_take]
        exact small_line (by omega)
      · intro b o eb
        rw [upd_ne (ne_of_none eb hD)]
        exact s1 _ _ eb
      · rw [upd_same, take_mapB_more (fun x => decide (x ≤ 99)) hil, List.map_append]
        have e : decide (tb.getD i 0 ≤ 99) = decide (((tb.getD i 0 : Nat) : Int) ≤ 99) := by
          by_cases h : tb.getD i 0 ≤ 99
          · rw [decide_eq_true h, decide_eq_true (by omega)]
          · rw [decide_eq_false h, decide_eq_false (by omega)]
        rw [e]
        rfl
    · rw [nl_len, List.take_length] at hl
      refine ⟨D, tb.map fun x => decide (x ≤ 99), rfl, .inl (.inl hl), ?_⟩
      have e : (tb.map fun x => decide (x ≤ 99)).all id = tb.all fun x => decide (x ≤ 99) := by rw [List.all_map]; rfl
      rw [e]
      exact k H1 s1
/-! ### uses_unusable -/
def spUnu (K : PySem.W.Frag) (C : Addr) : Sp := fun vs H Q _ => ∃ (p a : Addr) (w : Nat) (ls : List Lot) (am : List Nat) (as : List Addr), vs = [.ref p, .int w, .ref a] ∧ StockAt K C H p ls as ∧ SqL K H a (nl am) ∧ am.length = ls.length ∧ ls.length ≤ 1000 ∧
  ∀ H' : Hp, Same H H' → Q (.bl (unus ls w am)) H'
theorem ok_unu {f f1 : Addr} {fd fd1 : FuncData} (F : Fun K "uses_unusable" "uses_unusable" sUnu f fd) (T : Txt K mg C)
    (F1 : Fun K "usable_in" "Lot.usable_in" sUse f1 fd1) (b1 : Binds K fd1 ["self", "week"] []) (m1 : Meth K C "usable_in" f1) : FnOk P w K mg base CX0 2 f fd ["stock", "week", "amounts"] (spUnu K C) := by
  have G1 : FnOk P w K mg base CX0 1 f1 fd1 ["self", "week"] (spUse C) := ok_use F1 T
  refine F.ok scUnu (fun vs H Q E h => ?_) (fun cdv A outer s H vs Q E hr h => ?_)
  · obtain ⟨p, a, w, ls, am, as, rfl, _⟩ := h
    rfl
  · obtain ⟨p, a, w, ls, am, as, rfl, hS, hA, hlen, h1000, k⟩ := h
    refine ⟨_, pss_one (ps_ret (pe_callB (cr_any rfl) (by rfl) T.any (by decide +kernel) (pa_cons
      (pe_lc (own := [("lot", 3), ("amount", 4)]) (g := gTup K 2 (gCons (gName 3) (gCons (gName 4) gNil))) (tt := tYes) (te := tAndV (tOp (rI0 fun i j => .bl (decide (j < i))) (tVar 4) (tC (.int 0))) (tNotV (tMeth C "usable_in" (spUse C) [] E0 (tVar 3) (tCons (tVar 1) tNil)))) rfl scUnu.nd
        (pi_zip (by rfl) T.zip (pa_cons (pv 0) (pa_cons (pv 2) pa_nil)))
        (blkOk_by (N := ["stock", "week", "amounts", "lot", "amount"]) (sc := defScope sUnu) (by decide +kernel))
        (fun _ _ _ _ _ => pg_tup rfl (pgs_cons (pg_name (i := 3) scUnu.nd rfl (Or.inl rfl)) (pgs_cons (pg_name (i := 4) scUnu.nd rfl (Or.inl rfl)) pgs_nil))) (fun _ _ _ _ _ => pts_nil)
        (fun _ _ _ _ _ => pe_and (pe_cmpR op_gt (pv 4) pe_int (nomark _)) (pe_one (pe_not (pe_meth (pv 3) T.cl m1 G1 hr b1 .nil pass0 (pa_cons (pv 1) pa_nil)))))) pa_nil))), ?_⟩
    refine ⟨_, rfl, _, rfl, p, a, _, _, rfl, hS.lst, hA, fun D hD => ?_⟩
    have halen : (as.map V.ref).length = ls.length := by rw [List.length_map, hS.len]
    refine comp_pairs (K := K) (a := p) (b := a) (us := as.map V.ref) (vs := nl am) (by rw [halen, nl_len, hlen]) (fun i H' => Same H H' ∧ H' D = some (.lst ((unusL ls w am i).map V.bl))) ⟨same_upd hD, upd_same⟩ (fun i H' ⟨s1, _⟩ => ⟨s1.seq hS.lst, s1.seq hA⟩) (fun i x y Tp H' hx hy ⟨s1, hl⟩ nT => ?_) (fun H1 ⟨s1, hl⟩ => ?_)
    · obtain ⟨hia, rfl⟩ := nl_inv hy
      have hil : i < ls.length := by rw [← hlen]; exact hia
      obtain ⟨a0, ha0, dx, hins⟩ := (hS.same s1).get hil
      obtain rfl : x = V.ref a0 := Option.some.inj (hx.symm.trans ha0)
      have sT : Same H' (upd H' Tp (.tup [.ref a0, .int ((am.getD i 0 : Nat) : Int)])) := same_upd nT
      have hins2 := sT _ _ hins
      have hl2 := sT _ _ hl
      have s2 : Same H (upd H' Tp (.tup [.ref a0, .int ((am.getD i 0 : Nat) : Int)])) := s1.trans sT
      have hm := unusL_more ls w am i
      have done : ∀ (v : Bool), v = (decide (0 < am.getD i 0) && !usesIn (ls.getD i ⟨0, 0, 0⟩) w) →
          ∃ acc, upd H' Tp (.tup [.ref a0, .int ((am.getD i 0 : Nat) : Int)]) D = some (.lst acc) ∧ acc.length < sizeLine ∧ (Same H (upd (upd H' Tp (.tup [.ref a0, .int ((am.getD i 0 : Nat) : Int)])) D (.lst (acc ++ [.bl v]))) ∧
            upd (upd H' Tp (.tup [.ref a0, .int ((am.getD i 0 : Nat) : Int)])) D (.lst (acc ++ [.bl v])) D = some (.lst ((unusL ls w am (i + 1)).map V.bl))) := fun v hv => by
        refine ⟨_, hl2, ?_, ?_, ?_⟩
        · rw [List.length_map, unusL_len]
          exact small_line (by omega)
        · intro b o eb
          rw [upd_ne (ne_of_none eb hD)]
          exact s2 _ _ eb
        · rw [upd_same, hm, List.map_append, hv]
          rfl
      refine ⟨Tp, _, rfl, .inl (.inl upd_same), rfl, _, _, rfl, _, _, rfl, rfl, rfl, _, rfl, _, _, rfl, rfl, _, rfl, ?_⟩
      by_cases c : 0 < am.getD i 0
      · refine if_true_of' (decide_eq_true (show (0 : Int) < ((am.getD i 0 : Nat) : Int) by omega)) ?_
        refine ⟨_, rfl, a0, dx, _, rfl, hins2, lF_use _, _, rfl, a0, ls.getD i ⟨0, 0, 0⟩, w, rfl, ⟨dx, hins2⟩, _, rfl, done _ ?_⟩
        rw [decide_eq_true c, Bool.true_and]
      · refine if_false_of' (decide_eq_false (show ¬ (0 : Int) < ((am.getD i 0 : Nat) : Int) by omega)) ?_
        refine done _ ?_
        rw [decide_eq_false c, Bool.false_and]
    · rw [halen] at hl
      exact ⟨D, unusL ls w am ls.length, rfl, .inl (.inl hl), k H1 s1⟩
/-! ### is_feasible -/
/-- the weeks' parts of a table stand at bs -/
def RowsAt (D : Addr) (n : Nat) (tb : List Nat) (bs : List Addr) (H : Hp) : Prop := H D = some (.lst (bs.map V.ref)) ∧ ∀ (j : Nat) (b : Addr), bs[j]? = some b → b ≠ D ∧ H b = some (.lst (nl (rowP n tb j)))
theorem RowsAt.same {D : Addr} {n : Nat} {tb : List Nat} {bs : List Addr} {H H' : Hp} (h : RowsAt D n tb bs H) (s : Same H H') : RowsAt D n tb bs H' := ⟨s _ _ h.1, fun j b e => ⟨(h.2 j b e).1, s _ _ (h.2 j b e).2⟩⟩
theorem RowsAt.get {D : Addr} {n : Nat} {tb : List Nat} {bs : List Addr} {H : Hp} (h : RowsAt D n tb bs H) {i : Nat} (hi : i < bs.length) : ∃ b, atI (bs.map V.ref) (i : Int) = some (.ref b) ∧ (bs.map V.ref)[i]? = some (.ref b) ∧ H b = some (.lst (nl (rowP n tb i))) := by
  have e : (bs.map V.ref)[i]? = some (.ref bs[i]) := by rw [List.getElem?_map, List.getElem?_eq_getElem hi]; rfl
  exact ⟨bs[i], atI_nat e, e, (h.2 i _ (List.getElem?_eq_getElem hi)).2⟩
def spFea (K : PySem.W.Frag) (C : Addr) : Sp := fun vs H Q _ => ∃ (p d t : Addr) (ls : List Lot) (ds tb : List Nat) (as : List Addr), vs = [.ref p, .ref d, .ref t] ∧ StockAt K C H p ls as ∧ SqL K H d (nl ds) ∧ SqL K H t (nl tb) ∧ ls.length ≤ 1000 ∧ ds.length ≤ 1000 ∧
  ∀ H' : Hp, Same H H' → Q (.bl (planOk ls ds tb)) H'
theorem ok_fea {f f1 f2 : Addr} {fd fd1 fd2 : FuncData} (F : Fun K "is_feasible" "is_feasible" sFea f fd) (T : Txt K mg C)
    (F2 : Fun K "uses_unusable" "uses_unusable" sUnu f2 fd2) (b2 : Binds K fd2 ["stock", "week", "amounts"] []) (g2 : mg "uses_unusable" = some (.ref f2))
    (F1 : Fun K "usable_in" "Lot.usable_in" sUse f1 fd1) (b1 : Binds K fd1 ["self", "week"] []) (m1 : Meth K C "usable_in" f1) : FnOk P w K mg base CX0 3 f fd ["stock", "demand", "table"] (spFea K C) := by
  have G2 : FnOk P w K mg base CX0 2 f2 fd2 ["stock", "week", "amounts"] (spUnu K C) := ok_unu F2 T F1 b1 m1
  refine F.ok scFea (fun vs H Q E h => ?_) (fun cdv A outer s H vs Q E hr h => ?_)
  · obtain ⟨p, d, t, ls, ds, tb, as, rfl, _⟩ := h
    rfl
  · obtain ⟨p, d, t, ls, ds, tb, as, rfl, hS, hD, hTb, h1000, hd1000, k⟩ := h
    refine ⟨_, pss_cons (ps_if (pt_cmpR op_ne (pe_callB call_len_seq (by rfl) T.len PySem.boot_len (pa_cons (pv 2) pa_nil)) (pe_op op_mul (pe_callB call_len_seq (by rfl) T.len PySem.boot_len (pa_cons (pv 1) pa_nil)) (pe_callB call_len_seq (by rfl) T.len PySem.boot_len (pa_cons (pv 0) pa_nil))) (nomark _)) (pss_one (ps_ret pe_bl)) pss_nil)
      (pss_cons (ps_setLc (i := 3) (own := [("week", 4)]) (g := gName 4) (tt := tYes) (te := tSl (rSlL K) (tVar 2) (tPart (tTimes (tVar 4) (tLen K 0))) (tPart (tTimes (tOp (rI0 fun i j => .int (i + j)) (tVar 4) (tC (.int 1))) (tLen K 0)))) rfl scFea.nd rfl rfl (sw_true rfl rfl rfl (by decide +kernel))
        (pi_range1 rfl T.range (pa_cons (pe_callB call_len_seq (by rfl) T.len PySem.boot_len (pa_cons (pv 1) pa_nil)) pa_nil))
        (blkOk_by (N := nFea) (sc := defScope sFea) (by decide +kernel))
        (fun _ _ _ _ _ => pg_name (i := 4) scFea.nd rfl (Or.inl rfl)) (fun _ _ _ _ _ => pts_nil)
        (fun _ _ _ _ _ => pe_slice sl_list (pv 2) (po_some (pe_op op_mul (pv 4) (pe_callB call_len_seq (by rfl) T.len PySem.boot_len (pa_cons (pv 0) pa_nil)))) (po_some (pe_op op_mul (pe_op op_add (pv 4) pe_int) (pe_callB call_len_seq (by rfl) T.len PySem.boot_len (pa_cons (pv 0) pa_nil))))))
      (pss_cons (ps_for PassesOwn.never rfl (pi_enum (by rfl) T.enum (pa_cons (pv 1) pa_nil)) (pg_tup rfl (pgs_cons (pg_name (i := 4) scFea.nd rfl (Or.inl rfl)) (pgs_cons (pg_name (i := 5) scFea.nd rfl (Or.inl rfl)) pgs_nil)))
        (pss_one (ps_if (PW.pt (pw_or (pt_cmpR op_gt (pe_callB (cr_sum rfl) (by rfl) T.sum (by decide +kernel) (pa_cons (pe_ix ix_list (pv 3) (pv 4) (fun _ _ => rfl)) pa_nil)) (pv 5) (nomark _))
          (pw_or1 (pt_val (pe_call G2 hr rfl g2 F2.kp b2 .nil pass0 (pa_cons (pv 0) (pa_cons (pv 4) (pa_cons (pe_ix ix_list (pv 3) (pv 4) (fun _ _ => rfl)) pa_nil)))))))) (pss_one (ps_ret pe_bl)) pss_nil)))
      (pss_cons (ps_for PassesOwn.never rfl (pi_enum (by rfl) T.enum (pa_cons (pv 0) pa_nil)) (pg_tup rfl (pgs_cons (pg_name (i := 6) scFea.nd rfl (Or.inr rfl)) (pgs_cons (pg_name (i := 7) scFea.nd rfl (Or.inl rfl)) pgs_nil)))
        (pss_one (ps_if (pt_cmpR op_gt (pe_callB (cr_sum rfl) (by rfl) T.sum (by decide +kernel) (pa_cons
            (pe_lc (own := [("amounts", 8)]) (g := gName 8) (tt := tYes) (te := tOp (rIxL K) (tVar 8) (tVar 6)) rfl scFea.nd (pi_list (pv 3))
              (blkOk_by (N := nFea) (sc := defScope sFea) (by decide +kernel))
              (fun _ _ _ _ _ => pg_name (i := 8) scFea.nd rfl (Or.inl rfl)) (fun _ _ _ _ _ => pts_nil) (fun _ _ _ _ _ => pe_ix ix_list (pv 8) (pv 6) (fun _ _ => rfl))) pa_nil)) (pe_fld (pv 7) rfl) (nomark _)) (pss_one (ps_ret pe_bl)) pss_nil)))
      (pss_one (ps_ret pe_bl))))), ?_⟩
    have halen : (as.map V.ref).length = ls.length := by rw [List.length_map, hS.len]
    have bad : planOk ls ds tb = false → ∀ H' : Hp, Same H H' → Q (.bl false) H' := fun e H' s1 => by
      rw [e] at k
      exact k H' s1
    -- if len(table) != len(demand) * len(stock)
    refine ⟨_, rfl, t, _, rfl, .inl hTb, _, rfl, d, _, rfl, .inl hD, _, rfl, p, _, rfl, .inl hS.lst, _, _, rfl, rfl, .inl ⟨by rw [nl_len]; omega, by rw [nl_len]; omega⟩, rfl, _, rfl, ?_⟩
    by_cases hl : tb.length = ds.length * ls.length
    · have e1 : (!decide (V.int ((nl tb).length : Int) = V.int (((nl ds).length : Int) * ((as.map V.ref).length : Int)))) = false := by
        rw [nl_len, nl_len, halen, decide_eq_true (congrArg V.int (show (tb.length : Int) = (ds.length : Int) * (ls.length : Int) by rw [hl, Int.natCast_mul]))]
        rfl
      refine if_false_of' e1 ?_
      -- plan
      refine ⟨_, rfl, d, _, rfl, .inl hD, ((nl ds).length : Int), rfl, ?_, ?_, fun D hDn => ?_⟩
      · rw [nl_len]; omega
      · rw [nl_len]; omega
      have hn : ((nl ds).length : Int).toNat = ds.length := by rw [nl_len, Int.toNat_natCast]
      rw [hn]
      refine lc_range (lo := 0) (n := ds.length) (fun i H' => Same H H' ∧ ∃ bs : List Addr, bs.length = i ∧ RowsAt D ls.length tb bs H') ⟨same_upd hDn, [], rfl, upd_same, fun j b e => by simp at e⟩ (fun i H' hi ⟨s1, bs, hbl, hR⟩ => ?_) (fun H1 ⟨s1, bs, hbl, hR⟩ => ?_)
      · have e0 := Int.zero_add (i : Int)
        rw [e0]
        have hS1 := hS.same s1
        refine ⟨rfl, _, rfl, _, rfl, _, rfl, p, _, rfl, .inl hS1.lst, _, _, rfl, rfl, .inl ⟨by omega, by omega⟩, _, rfl, _, rfl, _, _, rfl, rfl, _, rfl, p, _, rfl, .inl hS1.lst, _, _, rfl, rfl, .inl ⟨by omega, by omega⟩, _, rfl, t, _, rfl, s1.seq hTb, fun Pn nP => ?_⟩
        have hle : i * ls.length + ls.length ≤ tb.length := by
          rw [hl, ← Nat.succ_mul]
          exact Nat.mul_le_mul_right _ hi
        have ec : cutV (nl tb) (some ((i : Int) * ((as.map V.ref).length : Int))) (some (((i : Int) + 1) * ((as.map V.ref).length : Int))) = nl (rowP ls.length tb i) := by
          rw [cut_between (i * ls.length) ls.length (by rw [halen, Int.natCast_mul]) (by rw [halen, Int.natCast_add, Int.natCast_mul, Int.add_mul, Int.one_mul]) (by rw [nl_len]; exact hle), nl_cut,
            row_cut (by rw [Nat.add_mul, Nat.one_mul]; exact hle)]
        rw [ec]
        have s2 : Same H' (upd H' Pn (.lst (nl (rowP ls.length tb i)))) := same_upd nP
        have nPD : Pn ≠ D := fun z => by
          rw [z, hR.1] at nP
          cases nP
        have hR2 := hR.same s2
        refine ⟨_, hR2.1, ?_, ?_, bs ++ [Pn], ?_, ?_, ?_⟩
        · rw [List.length_map, hbl]
          exact small_line (by omega)
        · intro b o eb
          rw [upd_ne (ne_of_none eb hDn)]
          exact s2 _ _ (s1 _ _ eb)
        · rw [List.length_append, hbl]
          rfl
        · rw [upd_same, List.map_append]
          rfl
        · intro j b e
          by_cases hj : j < i
          · rw [List.getElem?_append_left (by omega)] at e
            have q := hR2.2 j b e
            exact ⟨q.1, by rw [upd_ne q.1]; exact q.2⟩
          · rw [List.getElem?_append_right (by omega)] at e
            have hj2 : j = i := by
              by_cases h : j - bs.length < 1
              · omega
              · rw [List.getElem?_eq_none (show [Pn].length ≤ j - bs.length from by show 1 ≤ _; omega)] at e
                cases e
            subst hj2
            rw [hbl, Nat.sub_self] at e
            obtain rfl : Pn = b := Option.some.inj e
            exact ⟨nPD, by rw [upd_ne nPD]; exact upd_same⟩
      · -- for week, wanted in enumerate(demand)
        have hS1 := hS.same s1
        refine ⟨_, rfl, d, _, rfl, s1.seq hD, ?_⟩
        refine loop_count (K := K) (a := d) (us := nl ds) (fun i σ H' => ∃ w4 w5 w6 w7 w8 : Option V, σ = [some (.ref p), some (.ref d), some (.ref t), some (.ref D), w4, w5, w6, w7, w8] ∧ Same H1 H' ∧ ∀ j, j < i → weekBad ls ds tb j = false)
          ⟨_, _, _, _, _, rfl, fun _ _ e => e, fun j h => absurd h (Nat.not_lt_zero j)⟩ (fun i σ H' ⟨_, _, _, _, _, _, s2, _⟩ => s2.seq (s1.seq hD)) (fun i x Tp σ H' hi ⟨w4, w5, w6, w7, w8, hσ, s2, hb⟩ hTp => ?_) (fun σ H' ⟨w4, w5, w6, w7, w8, hσ, s2, hb⟩ => ?_)
        · subst hσ
          obtain ⟨hlt, rfl⟩ := nl_inv hi
          have s3 : Same H1 (upd H' Tp (.tup [.int ((i : Nat) : Int), .int ((ds.getD i 0 : Nat) : Int)])) := s2.trans (same_upd hTp)
          obtain ⟨b, hat, _, hrow⟩ := (hR.same s3).get (i := i) (by omega)
          have hD3 := (hR.same s3).1
          refine ⟨Tp, _, rfl, .inl (.inl upd_same), rfl, _, _, rfl, _, _, rfl, rfl, ?_⟩
          refine ⟨_, rfl, _, rfl, D, _, _, _, rfl, rfl, .inl (.inl hD3), hat, b, (rowP ls.length tb i).map Int.ofNat, rfl, .inl (.inl hrow), _, rfl, _, _, rfl, rfl, _, rfl, ?_⟩
          rw [sum_ofNat]
          by_cases c : ds.getD i 0 < (rowP ls.length tb i).sum
          · refine if_true_of' (decide_eq_true (by omega)) (if_true_of' rfl (bad (bad_week hlt ?_) _ (s1.trans s3)))
            unfold weekBad
            rw [decide_eq_true c, Bool.true_or]
          · refine if_false_of' (decide_eq_false (by omega)) ?_
            refine ⟨_, rfl, _, rfl, _, rfl, _, rfl, D, _, _, _, rfl, rfl, .inl (.inl hD3), hat, p, b, i, ls, _, as, rfl, hS1.same s3, .inl (.inl hrow), rowP_len .., h1000, fun H4 s4 => ⟨_, rfl, ?_⟩⟩
            cases c2 : unus ls i (rowP ls.length tb i) with
            | true =>
              refine iteT (bad (bad_week hlt ?_) _ ((s1.trans s3).trans s4))
              unfold weekBad
              rw [c2, Bool.or_true]
            | false =>
              refine iteF ⟨_, _, _, _, _, rfl, s3.trans s4, fun j hj => ?_⟩
              by_cases e : j = i
              · subst e
                unfold weekBad
                rw [c2, decide_eq_false c]
                rfl
              · exact hb j (by omega)
        · subst hσ
          rw [nl_len] at hb
          -- for index, lot in enumerate(stock)
          refine ⟨_, rfl, p, _, rfl, (hS1.same s2).lst, ?_⟩
          refine loop_count (K := K) (a := p) (us := as.map V.ref) (fun i σ H'' => ∃ w4 w5 w6 w7 w8 : Option V, σ = [some (.ref p), some (.ref d), some (.ref t), some (.ref D), w4, w5, w6, w7, w8] ∧ Same H1 H'' ∧ ∀ j, j < i → lotBad ls ds tb j = false)
            ⟨_, _, _, _, _, rfl, s2, fun j h => absurd h (Nat.not_lt_zero j)⟩ (fun i σ H'' ⟨_, _, _, _, _, _, s3, _⟩ => (hS1.same s3).lst) (fun i x Tp σ H'' hi ⟨w4, w5, w6, w7, w8, hσ, s3, hb2⟩ hTp => ?_) (fun σ H'' ⟨w4, w5, w6, w7, w8, hσ, s3, hb2⟩ => ?_)
          · subst hσ
            have hlt : i < ls.length := by
              by_cases h : i < ls.length
              · exact h
              · rw [List.getElem?_eq_none (by rw [halen]; omega)] at hi
                cases hi
            have s4 : Same H1 (upd H'' Tp (.tup [.int ((i : Nat) : Int), x])) := s3.trans (same_upd hTp)
            obtain ⟨a0, ha0, dx, hins⟩ := (hS1.same s4).get hlt
            obtain rfl : x = V.ref a0 := Option.some.inj (hi.symm.trans ha0)
            have hR4 := hR.same s4
            have hTp4 : upd H'' Tp (.tup [.int ((i : Nat) : Int), .ref a0]) Tp = some (.tup [.int ((i : Nat) : Int), .ref a0]) := upd_same
            refine ⟨Tp, _, rfl, .inl (.inl hTp4), rfl, _, _, rfl, _, _, rfl, rfl, ?_⟩
            generalize upd H'' Tp (.tup [.int ((i : Nat) : Int), .ref a0]) = H4 at s4 hins hR4 hTp4
            -- sum([amounts[index] for amounts in plan])
            refine ⟨_, rfl, D, rfl, ⟨_, .inl (.inl hR4.1)⟩, fun D2 hD2 => ?_⟩
            refine lc_list (K := K) (a := D) (xs := bs.map V.ref) (fun j H5 => Same H4 H5 ∧ H5 D2 = some (.lst (nl (colP ls.length tb i j)))) ⟨same_upd hD2, upd_same⟩ (fun j H5 _ ⟨s5, _⟩ => .inl (.inl (s5 _ _ hR4.1))) (fun j y H5 hj ⟨s5, hl5⟩ => ?_) (fun H5 ⟨s5, hl5⟩ => ?_)
            · have hjl : j < bs.length := by
                by_cases h : j < bs.length
                · exact h
                · rw [List.getElem?_eq_none (by rw [List.length_map]; omega)] at hj
                  cases hj
              obtain ⟨b, _, hb4, hrow⟩ := (hR4.same s5).get hjl
              obtain rfl : y = V.ref b := Option.some.inj (hj.symm.trans hb4)
              have hx : (rowP ls.length tb j).getD i 0 = tb.getD (j * ls.length + i) 0 := rowP_get tb j hlt
              refine ⟨rfl, _, rfl, _, rfl, b, _, _, _, rfl, rfl, .inl (.inl hrow), nl_at i rfl (by rw [rowP_len]; exact hlt), _, hl5, ?_, ?_, ?_⟩
              · rw [nl_len, colP_len]
                exact small_line (by omega)
              · intro b' o eb
                rw [upd_ne (ne_of_none eb hD2)]
                exact s5 _ _ eb
              · rw [upd_same, colP_more, nl_app, hx]
                rfl
            · rw [List.length_map, hbl] at hl5
              have hins5 := s5 _ _ hins
              refine ⟨D2, (colP ls.length tb i ds.length).map Int.ofNat, rfl, .inl (.inl hl5), _, rfl, a0, C, dx, _, _, rfl, hins5, T.cl, T.nA, lF_amount _, _, _, rfl, rfl, _, rfl, ?_⟩
              rw [sum_ofNat]
              by_cases c : (ls.getD i ⟨0, 0, 0⟩).amount < (colP ls.length tb i ds.length).sum
              · exact if_true_of' (decide_eq_true (by omega)) (bad (bad_lot hlt (decide_eq_true c)) _ ((s1.trans s4).trans s5))
              · refine if_false_of' (decide_eq_false (by omega)) ⟨_, _, _, _, _, rfl, s4.trans s5, fun j hj => ?_⟩
                by_cases e : j = i
                · subst e
                  exact decide_eq_false c
                · exact hb2 j (by omega)
          · subst hσ
            rw [halen] at hb2
            have e := all_good hl hb hb2
            rw [e] at k
            exact k H'' (s1.trans s3)
    · have e1 : (!decide (V.int ((nl tb).length : Int) = V.int (((nl ds).length : Int) * ((as.map V.ref).length : Int)))) = true := by
        rw [nl_len, nl_len, halen, decide_eq_false (fun z => hl (by
          have q := V.int.inj z
          rw [← Int.natCast_mul] at q
          omega))]
        rfl
      exact if_true_of' e1 (bad (bad_len hl) H fun _ _ e => e)
end
end Fl
set_option Elab.async false
set_option linter.all false
set_option maxRecDepth 100000
set_option maxHeartbeats 4100000
namespace Fl
open PySem PySem.Spec PyProof.Rows L2
open Ks594 (Lot Stock)
theorem scMain : FnScope ["lots", "demand", "table", "unmet"] ["lots", "demand", "table"] (defScope sMain) := ⟨rfl, rfl, rfl, by decide +kernel, rfl, by decide +kernel, by decide +kernel⟩
section
variable {P : Program} {w : World} {K : PySem.W.Frag} {mg : Str → Option Value} {base : Heap} {C : Addr}
def answer (xs ds tb : List Nat) : List Int := badOr (stockOk xs ds && tb.all fun x => decide (x ≤ 99)) ([if planOk (lotsOf xs) ds tb = true then 1 else 0, ds.sum - tb.sum].map Int.ofNat)
def spMain (K : PySem.W.Frag) : Sp := fun vs H Q _ => ∃ (p d t : Addr) (xs ds tb : List Nat), vs = [.ref p, .ref d, .ref t] ∧ SqL K H p (nl xs) ∧ SqL K H d (nl ds) ∧ SqL K H t (nl tb) ∧ xs.length ≤ 1000 ∧ ds.length ≤ 1000 ∧ tb.length ≤ 1000 ∧
  ∀ (H' : Hp) (q : Addr), H' q = some (.lst ((answer xs ds tb).map V.int)) → Q (.ref q) H'
theorem ok_main {f f1 f2 f3 f4 f5 : Addr} {fd fd1 fd2 fd3 fd4 fd5 : FuncData} (F : Fun K "check_plan" "check_plan" sMain f fd) (T : Txt K mg C)
    (G1 : FnOk P w K mg base CX0 3 f1 fd1 ["lots", "demand"] (spSl K)) (k1 : PySem.W.keepIn K (.ref f1) = true) (b1 : Binds K fd1 ["lots", "demand"] []) (g1 : mg "stock_in_limits" = some (.ref f1))
    (G5 : FnOk P w K mg base CX0 1 f5 fd5 ["table"] (spTil K)) (k5 : PySem.W.keepIn K (.ref f5) = true) (b5 : Binds K fd5 ["table"] []) (g5 : mg "table_in_limits" = some (.ref f5))
    (G2 : FnOk P w K mg base CX0 1 f2 fd2 [] spOut) (k2 : PySem.W.keepIn K (.ref f2) = true) (b2 : Binds K fd2 [] []) (g2 : mg "out_of_limits" = some (.ref f2))
    (G4 : FnOk P w K mg base CX0 3 f4 fd4 ["lots"] (spRead K C)) (k4 : PySem.W.keepIn K (.ref f4) = true) (b4 : Binds K fd4 ["lots"] []) (g4 : mg "read_lots" = some (.ref f4))
    (G3 : FnOk P w K mg base CX0 3 f3 fd3 ["stock", "demand", "table"] (spFea K C)) (k3 : PySem.W.keepIn K (.ref f3) = true) (b3 : Binds K fd3 ["stock", "demand", "table"] []) (g3 : mg "is_feasible" = some (.ref f3)) :
    FnOk P w K mg base CX0 4 f fd ["lots", "demand", "table"] (spMain K) := by
  refine F.ok scMain (fun vs H Q E h => ?_) (fun cdv A outer s H vs Q E hr h => ?_)
  · obtain ⟨p, d, t, xs, ds, tb, rfl, _⟩ := h
    rfl
  · obtain ⟨p, d, t, xs, ds, tb, rfl, hS, hD, hTb, h1000, hd1000, ht1000, k⟩ := h
    refine ⟨_, pss_cons (ps_if (PW.pt (pw_or (pt_not (pt_val (pe_call G1 hr rfl g1 k1 b1 .nil pass0 (pa_cons (pv 0) (pa_cons (pv 1) pa_nil)))))
          (pw_or1 (pt_not (pt_val (pe_call G5 (hr.mono (by decide)) rfl g5 k5 b5 .nil pass0 (pa_cons (pv 2) pa_nil)))))))
        (pss_one (ps_ret (pe_call0 G2 (hr.mono (by decide)) rfl g2 k2 b2 .nil pass0))) pss_nil)
      (pss_cons (ps_set (i := 3) scMain.nd rfl (Or.inl rfl) (pe_callB (call_max2 rfl) (by rfl) T.max (by decide +kernel) (pa_cons pe_int (pa_cons (pe_op op_sub (pe_callB (cr_sum rfl) (by rfl) T.sum (by decide +kernel) (pa_cons (pv 1) pa_nil)) (pe_callB (cr_sum rfl) (by rfl) T.sum (by decide +kernel) (pa_cons (pv 2) pa_nil))) pa_nil))))
      (pss_cons (ps_if (pt_val (pe_call G3 hr rfl g3 k3 b3 .nil pass0 (pa_cons (pe_call G4 hr rfl g4 k4 b4 .nil pass0 (pa_cons (pv 0) pa_nil)) (pa_cons (pv 1) (pa_cons (pv 2) pa_nil)))))
        (pss_one (ps_ret (pe_lst (pa_cons pe_int (pa_cons (pv 3) pa_nil))))) pss_nil)
      (pss_one (ps_ret (pe_lst (pa_cons pe_int (pa_cons (pv 3) pa_nil))))))), ?_⟩
    refine ⟨_, rfl, _, rfl, p, d, xs, ds, rfl, hS, hD, h1000, _, rfl, ?_⟩
    unfold answer at k
    cases c : stockOk xs ds with
    | false =>
      rw [c, Bool.false_and] at k
      exact iteT (iteT ⟨rfl, fun l hl => k _ l upd_same⟩)
    | true =>
      rw [c, Bool.true_and] at k
      have c3 := Bool.and_eq_true_iff.mp (show (lotsOk xs && demandOk ds) = true from c)
      have hok : okTriples xs = true := (Bool.and_eq_true_iff.mp (show ((decide (xs.length % 3 = 0) && decide (xs.length ≤ 18)) && okTriples xs) = true from c3.1)).2
      refine iteF ⟨_, rfl, t, tb, rfl, hTb, ht1000, fun H1 s1 => ⟨_, rfl, ?_⟩⟩
      cases c2 : tb.all fun x => decide (x ≤ 99) with
      | false =>
        rw [c2] at k
        exact iteT ⟨rfl, fun l hl => k _ l upd_same⟩
      | true =>
        rw [c2] at k
        refine iteF ?_
        -- unmet = max(0, sum(demand) - sum(table))
        refine ⟨_, rfl, d, ds.map Int.ofNat, rfl, s1.seq hD, _, rfl, t, tb.map Int.ofNat, rfl, s1.seq hTb, _, _, rfl, rfl, _, _, rfl, ?_⟩
        have e : (if (ds.map Int.ofNat).sum - (tb.map Int.ofNat).sum > 0 then (ds.map Int.ofNat).sum - (tb.map Int.ofNat).sum else 0) = ((ds.sum - tb.sum : Nat) : Int) := by
          rw [sum_ofNat, sum_ofNat]
          split <;> omega
        rw [e]
        -- if is_feasible(read_lots(lots), demand, table)
        refine ⟨_, rfl, p, xs, rfl, s1.seq hS, h1000, hok, fun H2 st as s2 hSt hst => ?_⟩
        have s12 := s1.trans s2
        refine ⟨_, rfl, _, rfl, st, d, t, lotsOf xs, ds, tb, as, rfl, hSt, s12.seq hD, s12.seq hTb, (by rw [lots_len]; omega), hd1000, fun H3 s3 => ⟨_, rfl, ?_⟩⟩
        cases c4 : planOk (lotsOf xs) ds tb with
        | false =>
          rw [c4] at k
          exact iteF ⟨_, rfl, (by show 2 ≤ sizeLine; decide), fun l hl => k _ l upd_same⟩
        | true =>
          rw [c4] at k
          exact iteT ⟨_, rfl, (by show 2 ≤ sizeLine; decide), fun l hl => k _ l upd_same⟩
end
end Fl
namespace Fl
open PySem PySem.Spec PyProof.Rows L2
open PySem.W (WData Codec)
theorem nat_list : ∀ {l : List Int}, (∀ x ∈ l, 0 ≤ x) → (l.map Int.toNat).map Int.ofNat = l
  | [], _ => rfl
  | x :: r, h => by
    rw [List.map_cons, List.map_cons, nat_list fun y hy => h y (List.mem_cons_of_mem _ hy)]
    congr 1
    exact Int.toNat_of_nonneg (h x (List.mem_cons_self ..))
theorem in_list {lo hi : Nat} {l : List Int} (h : (Codec.inLen lo hi l && l.all (Codec.inInt 0 4294967295)) = true) : l.length ≤ hi ∧ ∀ x ∈ l, 0 ≤ x := by
  rw [Bool.and_eq_true] at h
  refine ⟨(Codec.inNat_iff.mp h.1).2, fun x hx => ?_⟩
  have := List.all_eq_true.mp h.2 x hx
  have := Codec.inInt_iff.mp this
  exact this.1
/-- the request, and what is due -/
theorem row_says (K : PySem.W.Frag) (H : Hp) (xs : List V) (a : Codec.denoteAll PySem.Challenge.rw_freshlots_s06_check_plan.args) (hwi : Codec.withinAll PySem.Challenge.rw_freshlots_s06_check_plan.args a = true) (hx : DwAll K H xs (Codec.encAll PySem.Challenge.rw_freshlots_s06_check_plan.args a)) :
    spMain K xs H (fun v H' => Dw K H' v (PySem.Challenge.rw_freshlots_s06_check_plan.ret.enc (Codec.app PySem.Challenge.rw_freshlots_s06_check_plan.args PySem.Challenge.rw_freshlots_s06_check_plan.f a))) fun _ _ _ => False := by
  obtain ⟨lots, demand, table, u⟩ := a
  have hwi' : ((Codec.inLen 0 21 lots && lots.all (Codec.inInt 0 4294967295)) && ((Codec.inLen 0 12 demand && demand.all (Codec.inInt 0 4294967295)) && ((Codec.inLen 0 62 table && table.all (Codec.inInt 0 4294967295)) && true))) = true := hwi
  have w23 := Bool.and_eq_true_iff.mp hwi'
  have w34 := Bool.and_eq_true_iff.mp w23.2
  obtain ⟨ll, lp⟩ := in_list w23.1
  obtain ⟨dl, dp⟩ := in_list w34.1
  obtain ⟨tl, tp⟩ := in_list (Bool.and_eq_true_iff.mp w34.2).1
  cases hx with
  | cons h2 h =>
    cases h with
    | cons h3 h =>
      cases h with
      | cons h4 h =>
        cases h
        cases h2 with
        | @lst p2 _ _ s2 a2 =>
          cases h3 with
          | @lst p3 _ _ s3 a3 =>
            cases h4 with
            | @lst p4 _ _ s4 a4 =>
              have e2 := L2.ints_dw lots _ a2
              have e3 := L2.ints_dw demand _ a3
              have e4 := L2.ints_dw table _ a4
              subst e2 e3 e4
              have el := nat_list lp
              have ed := nat_list dp
              have et := nat_list tp
              refine ⟨p2, p3, p4, lots.map Int.toNat, demand.map Int.toNat, table.map Int.toNat, rfl, ?_, ?_, ?_, ?_, ?_, ?_, fun H' q hq => ?_⟩
              · unfold nl
                rw [el]
                exact s2
              · unfold nl
                rw [ed]
                exact s3
              · unfold nl
                rw [et]
                exact s4
              · rw [List.length_map]
                omega
              · rw [List.length_map]
                omega
              · rw [List.length_map]
                omega
              · have es := spec_check (lots.map Int.toNat) (demand.map Int.toNat) (table.map Int.toNat)
                rw [el, ed, et] at es
                show Dw K H' (.ref q) (WData.list ((PyKs594.check_plan lots demand table).map WData.int))
                rw [es]
                exact .lst (SqL.of hq) (dw_ints _)
end Fl
set_option Elab.async false
set_option linter.all false
set_option maxRecDepth 100000
set_option maxHeartbeats 8100000
namespace Fl
open PySem PySem.Spec PyProof.Rows L2
theorem all_mk {P : Program} {w : World} {K : PySem.W.Frag} {h : Heap} {mg : Str → Option Value} {fa C fI fU : Addr} {f1 : Addr} {od1 an1 : Option Addr} {sl1 : Array (Option Value)} {oc1 kV1 dc1 pm1 ct1 : Value} {cd1 : Value} {f2 : Addr} {od2 an2 : Option Addr} {sl2 : Array (Option Value)} {oc2 kV2 dc2 pm2 ct2 : Value} {cd2 : Value} {f3 : Addr} {od3 an3 : Option Addr} {sl3 : Array (Option Value)} {oc3 kV3 dc3 pm3 ct3 : Value} {cd3 : Value} {f4 : Addr} {od4 an4 : Option Addr} {sl4 : Array (Option Value)} {oc4 kV4 dc4 pm4 ct4 : Value} {cd4 : Value} {f5 : Addr} {od5 an5 : Option Addr} {sl5 : Array (Option Value)} {oc5 kV5 dc5 pm5 ct5 : Value} {cd5 : Value} {f6 : Addr} {od6 an6 : Option Addr} {sl6 : Array (Option Value)} {oc6 kV6 dc6 pm6 ct6 : Value} {cd6 : Value} {f7 : Addr} {od7 an7 : Option Addr} {sl7 : Array (Option Value)} {oc7 kV7 dc7 pm7 ct7 : Value} {cd7 : Value} {f8 : Addr} {od8 an8 : Option Addr} {sl8 : Array (Option Value)} {oc8 kV8 dc8 pm8 ct8 : Value} {cd8 : Value} {f9 : Addr} {od9 an9 : Option Addr} {sl9 : Array (Option Value)} {oc9 kV9 dc9 pm9 ct9 : Value} {cd9 : Value} {f10 : Addr} {od10 an10 : Option Addr} {sl10 : Array (Option Value)} {oc10 kV10 dc10 pm10 ct10 : Value} {cd10 : Value} {odI anI : Option Addr} {slI : Array (Option Value)} {ocI kVI dcI pmI ctI cdI : Value} {odU anU : Option Addr} {slU : Array (Option Value)} {ocU kVU dcU pmU ctU cdU : Value} {t_n3 t_n6 t_n10 t_nW t_nM : Tok}
    (X : K.In h) (G : h.Ns mainGlobals mg) (hfa : mg "check_plan" = some (.ref fa))
    (a1 : PySem.W.nsIn K mainGlobals "lots_in_limits" = some (some (.ref f1)))
    (l1 : K.lookup f1 = some ⟨oc1, od1, .func (PySem.W.fnOf "lots_in_limits" "lots_in_limits" (defArgs sLol) (defBody sLol) (defScope sLol) .none kV1 dc1 pm1 an1 cd1 ct1), sl1⟩)
    (c1 : PySem.W.codeIn K cd1 "lots_in_limits" = true)
    (k1 : PySem.W.keepIn K (.ref f1) = true)
    (a2 : PySem.W.nsIn K mainGlobals "lot_in_limits" = some (some (.ref f2)))
    (l2 : K.lookup f2 = some ⟨oc2, od2, .func (PySem.W.fnOf "lot_in_limits" "lot_in_limits" (defArgs sLl) (defBody sLl) (defScope sLl) .none kV2 dc2 pm2 an2 cd2 ct2), sl2⟩)
    (c2 : PySem.W.codeIn K cd2 "lot_in_limits" = true)
    (k2 : PySem.W.keepIn K (.ref f2) = true)
    (a3 : PySem.W.nsIn K mainGlobals "demand_in_limits" = some (some (.ref f3)))
    (l3 : K.lookup f3 = some ⟨oc3, od3, .func (PySem.W.fnOf "demand_in_limits" "demand_in_limits" (defArgs sDl) (defBody sDl) (defScope sDl) .none kV3 dc3 pm3 an3 cd3 ct3), sl3⟩)
    (c3 : PySem.W.codeIn K cd3 "demand_in_limits" = true)
    (k3 : PySem.W.keepIn K (.ref f3) = true)
    (a4 : PySem.W.nsIn K mainGlobals "stock_in_limits" = some (some (.ref f4)))
    (l4 : K.lookup f4 = some ⟨oc4, od4, .func (PySem.W.fnOf "stock_in_limits" "stock_in_limits" (defArgs sSl) (defBody sSl) (defScope sSl) .none kV4 dc4 pm4 an4 cd4 ct4), sl4⟩)
    (c4 : PySem.W.codeIn K cd4 "stock_in_limits" = true)
    (k4 : PySem.W.keepIn K (.ref f4) = true)
    (a5 : PySem.W.nsIn K mainGlobals "table_in_limits" = some (some (.ref f5)))
    (l5 : K.lookup f5 = some ⟨oc5, od5, .func (PySem.W.fnOf "table_in_limits" "table_in_limits" (defArgs sTil) (defBody sTil) (defScope sTil) .none kV5 dc5 pm5 an5 cd5 ct5), sl5⟩)
    (c5 : PySem.W.codeIn K cd5 "table_in_limits" = true)
    (k5 : PySem.W.keepIn K (.ref f5) = true)
    (a6 : PySem.W.nsIn K mainGlobals "check_plan" = some (some (.ref f6)))
    (l6 : K.lookup f6 = some ⟨oc6, od6, .func (PySem.W.fnOf "check_plan" "check_plan" (defArgs sMain) (defBody sMain) (defScope sMain) .none kV6 dc6 pm6 an6 cd6 ct6), sl6⟩)
    (c6 : PySem.W.codeIn K cd6 "check_plan" = true)
    (k6 : PySem.W.keepIn K (.ref f6) = true)
    (a7 : PySem.W.nsIn K mainGlobals "out_of_limits" = some (some (.ref f7)))
    (l7 : K.lookup f7 = some ⟨oc7, od7, .func (PySem.W.fnOf "out_of_limits" "out_of_limits" (defArgs sOut) (defBody sOut) (defScope sOut) .none kV7 dc7 pm7 an7 cd7 ct7), sl7⟩)
    (c7 : PySem.W.codeIn K cd7 "out_of_limits" = true)
    (k7 : PySem.W.keepIn K (.ref f7) = true)
    (a8 : PySem.W.nsIn K mainGlobals "read_lots" = some (some (.ref f8)))
    (l8 : K.lookup f8 = some ⟨oc8, od8, .func (PySem.W.fnOf "read_lots" "read_lots" (defArgs sRead) (defBody sRead) (defScope sRead) .none kV8 dc8 pm8 an8 cd8 ct8), sl8⟩)
    (c8 : PySem.W.codeIn K cd8 "read_lots" = true)
    (k8 : PySem.W.keepIn K (.ref f8) = true)
    (a9 : PySem.W.nsIn K mainGlobals "is_feasible" = some (some (.ref f9)))
    (l9 : K.lookup f9 = some ⟨oc9, od9, .func (PySem.W.fnOf "is_feasible" "is_feasible" (defArgs sFea) (defBody sFea) (defScope sFea) .none kV9 dc9 pm9 an9 cd9 ct9), sl9⟩)
    (c9 : PySem.W.codeIn K cd9 "is_feasible" = true)
    (k9 : PySem.W.keepIn K (.ref f9) = true)
    (a10 : PySem.W.nsIn K mainGlobals "uses_unusable" = some (some (.ref f10)))
    (l10 : K.lookup f10 = some ⟨oc10, od10, .func (PySem.W.fnOf "uses_unusable" "uses_unusable" (defArgs sUnu) (defBody sUnu) (defScope sUnu) .none kV10 dc10 pm10 an10 cd10 ct10), sl10⟩)
    (c10 : PySem.W.codeIn K cd10 "uses_unusable" = true)
    (k10 : PySem.W.keepIn K (.ref f10) = true)
    (aC : PySem.W.nsIn K mainGlobals "Lot" = some (some (.ref C)))
    (aI : PySem.W.findIn K (.ref C) "__init__" = some (some (.ref fI)))
    (iI : PySem.W.isFn K (.ref fI) = true)
    (lI : K.lookup fI = some ⟨ocI, odI, .func (PySem.W.fnOf "__init__" "Lot.__init__" (defArgs sInit) (defBody sInit) (defScope sInit) .none kVI dcI pmI anI cdI ctI), slI⟩)
    (cI : PySem.W.codeIn K cdI "Lot.__init__" = true)
    (kI : PySem.W.keepIn K (.ref fI) = true)
    (aU : PySem.W.findIn K (.ref C) "usable_in" = some (some (.ref fU)))
    (iU : PySem.W.isFn K (.ref fU) = true)
    (lU : K.lookup fU = some ⟨ocU, odU, .func (PySem.W.fnOf "usable_in" "Lot.usable_in" (defArgs sUse) (defBody sUse) (defScope sUse) .none kVU dcU pmU anU cdU ctU), slU⟩)
    (cU : PySem.W.codeIn K cdU "Lot.usable_in" = true)
    (kU : PySem.W.keepIn K (.ref fU) = true)
    (pg : PySem.W.plainGet K C Str.empty = true)
    (hd : PySem.W.hasDictIn K C = true)
    (po : PySem.W.plainOver K C = true)
    (sa : PySem.W.findIn K (.ref C) "__setattr__" = some (some (.builtin "object.__setattr__")))
    (mk : PySem.W.makesIn K C = true)
    (kc : PySem.W.keepIn K (.ref C) = true)
    (nF : PySem.W.findIn K (.ref C) "first" = some none)
    (nL : PySem.W.findIn K (.ref C) "last" = some none)
    (nA : PySem.W.findIn K (.ref C) "amount" = some none)
    (g_n3 : PySem.W.nsIn K mainGlobals "NUMBERS_PER_LOT" = some (some (.int 3 t_n3)))
    (g_n6 : PySem.W.nsIn K mainGlobals "MOST_LOTS" = some (some (.int 6 t_n6)))
    (g_n10 : PySem.W.nsIn K mainGlobals "MOST_WEEKS" = some (some (.int 10 t_n10)))
    (g_nW : PySem.W.nsIn K mainGlobals "HIGHEST_LAST_WEEK" = some (some (.int 99 t_nW)))
    (g_nM : PySem.W.nsIn K mainGlobals "HIGHEST_AMOUNT" = some (some (.int 99 t_nM)))
    (b_len : PySem.W.nsIn K mainGlobals "len" = some none)
    (b_range : PySem.W.nsIn K mainGlobals "range" = some none)
    (b_max : PySem.W.nsIn K mainGlobals "max" = some none)
    (b_min : PySem.W.nsIn K mainGlobals "min" = some none)
    (b_sum : PySem.W.nsIn K mainGlobals "sum" = some none)
    (b_zip : PySem.W.nsIn K mainGlobals "zip" = some none)
    (b_enum : PySem.W.nsIn K mainGlobals "enumerate" = some none)
    (b_sorted : PySem.W.nsIn K mainGlobals "sorted" = some none)
    (b_any : PySem.W.nsIn K mainGlobals "any" = some none)
    (b_all : PySem.W.nsIn K mainGlobals "all" = some none) :
    ∃ fd : FuncData, (∀ (s : Shared) (us : List Value), us.length = (["lots", "demand", "table"] : List Str).length → BindsTo s fd ⟨us, []⟩ ((["lots", "demand", "table"] : List Str).zip us)) ∧ ∀ base : Heap, K.In base → base.Ns mainGlobals mg → FnOk P w K mg base CX0 4 fa fd ["lots", "demand", "table"] (spMain K) := by
  have e := hfa.symm.trans (PySem.W.mg_of X G a6)
  cases e
  have T : Txt K mg C := ⟨⟨pg, hd, po, sa⟩, nF, nL, nA, PySem.W.mg_of X G aC, ⟨_, PySem.W.mg_of X G g_n3⟩, ⟨_, PySem.W.mg_of X G g_n6⟩, ⟨_, PySem.W.mg_of X G g_n10⟩, ⟨_, PySem.W.mg_of X G g_nW⟩, ⟨_, PySem.W.mg_of X G g_nM⟩, PySem.W.mg_none_of X G b_len, PySem.W.mg_none_of X G b_range, PySem.W.mg_none_of X G b_max, PySem.W.mg_none_of X G b_min, PySem.W.mg_none_of X G b_sum, PySem.W.mg_none_of X G b_zip, PySem.W.mg_none_of X G b_enum, PySem.W.mg_none_of X G b_sorted, PySem.W.mg_none_of X G b_any, PySem.W.mg_none_of X G b_all⟩
  have F1 := fun_mk (st := sLol) l1 c1 k1
  have b1 := F1.binds (ps := ["lots"]) fun _ _ _ _ _ _ us hl => match us, hl with | [_], _ => rfl
  have F2 := fun_mk (st := sLl) l2 c2 k2
  have b2 := F2.binds (ps := ["first", "last", "amount"]) fun _ _ _ _ _ _ us hl => match us, hl with | [_, _, _], _ => rfl
  have F3 := fun_mk (st := sDl) l3 c3 k3
  have b3 := F3.binds (ps := ["demand"]) fun _ _ _ _ _ _ us hl => match us, hl with | [_], _ => rfl
  have F4 := fun_mk (st := sSl) l4 c4 k4
  have b4 := F4.binds (ps := ["lots", "demand"]) fun _ _ _ _ _ _ us hl => match us, hl with | [_, _], _ => rfl
  have F5 := fun_mk (st := sTil) l5 c5 k5
  have b5 := F5.binds (ps := ["table"]) fun _ _ _ _ _ _ us hl => match us, hl with | [_], _ => rfl
  have F6 := fun_mk (st := sMain) l6 c6 k6
  have b6 := F6.binds (ps := ["lots", "demand", "table"]) fun _ _ _ _ _ _ us hl => match us, hl with | [_, _, _], _ => rfl
  have F7 := fun_mk (st := sOut) l7 c7 k7
  have b7 := F7.binds (ps := []) fun _ _ _ _ _ _ us hl => match us, hl with | [], _ => rfl
  have F8 := fun_mk (st := sRead) l8 c8 k8
  have b8 := F8.binds (ps := ["lots"]) fun _ _ _ _ _ _ us hl => match us, hl with | [_], _ => rfl
  have F9 := fun_mk (st := sFea) l9 c9 k9
  have b9 := F9.binds (ps := ["stock", "demand", "table"]) fun _ _ _ _ _ _ us hl => match us, hl with | [_, _, _], _ => rfl
  have F10 := fun_mk (st := sUnu) l10 c10 k10
  have b10 := F10.binds (ps := ["stock", "week", "amounts"]) fun _ _ _ _ _ _ us hl => match us, hl with | [_, _, _], _ => rfl
  have FI := fun_mk (st := sInit) lI cI kI
  have bI := FI.binds (ps := ["self", "first", "last", "amount"]) fun _ _ _ _ _ _ us hl => match us, hl with | [_, _, _, _], _ => rfl
  have FU := fun_mk (st := sUse) lU cU kU
  have bU := FU.binds (ps := ["self", "week"]) fun _ _ _ _ _ _ us hl => match us, hl with | [_, _], _ => rfl
  refine ⟨PySem.W.fnOf "check_plan" "check_plan" (defArgs sMain) (defBody sMain) (defScope sMain) .none kV6 dc6 pm6 an6 cd6 ct6, fun s us hu => match us, hu with | [_, _, _], _ => .of_eq rfl, fun base _ _ => ?_⟩
  have G4 := ok_sl (P := P) (w := w) (base := base) F4 T F1 b1 (PySem.W.mg_of X G a1) F2 b2 (PySem.W.mg_of X G a2) F3 b3 (PySem.W.mg_of X G a3)
  have G7 := ok_out (mg := mg) (P := P) (w := w) (base := base) F7
  have G8 := ok_read (P := P) (w := w) (base := base) F8 T ⟨mk, aI, iI, kc⟩ FI bI
  have G5 := ok_til (P := P) (w := w) (base := base) F5 T
  have G9 := ok_fea (P := P) (w := w) (base := base) F9 T F10 b10 (PySem.W.mg_of X G a10) FU bU ⟨aU, iU, kU⟩
  exact ok_main F6 T G4 k4 b4 (PySem.W.mg_of X G a4) G5 k5 b5 (PySem.W.mg_of X G a5) G7 k7 b7 (PySem.W.mg_of X G a7) G8 k8 b8 (PySem.W.mg_of X G a8) G9 k9 b9 (PySem.W.mg_of X G a9)
end Fl
open PySem PySem.W PyProof.Rows
set_option maxRecDepth 100000 in
set_option maxHeartbeats 8000000 in
theorem PySem.Challenge.cw_freshlots_s06_check_plan_holds : PySem.Challenge.rw_freshlots_s06_check_plan.Holds := by
  w_on; k_headS; (case hw => exact ⟨[.list [], .list [], .list []], by decide +kernel, by decide +kernel⟩)
  k_fillS
  refine L2.walk_specK (r := PySem.Challenge.rw_freshlots_s06_check_plan) (k := 4) (CX := L2.CX0) (ps := ["lots", "demand", "table"]) (sp := Fl.spMain) (by decide +kernel) rfl rfl ⟨rfl, by decide, by decide⟩ (fun w h Y => PySem.W.kIn_of Y) ?F ?S (fun _ _ _ _ z => z)
  case F =>
    intro w mg fa h Y KX G hmg
    refine' Fl.all_mk KX G hmg ?a1 ?l1 ?c1 ?k1 ?a2 ?l2 ?c2 ?k2 ?a3 ?l3 ?c3 ?k3 ?a4 ?l4 ?c4 ?k4 ?a5 ?l5 ?c5 ?k5 ?a6 ?l6 ?c6 ?k6 ?a7 ?l7 ?c7 ?k7 ?a8 ?l8 ?c8 ?k8 ?a9 ?l9 ?c9 ?k9 ?a10 ?l10 ?c10 ?k10 ?aC ?aI ?iI ?lI ?cI ?kI ?aU ?iU ?lU ?cU ?kU ?pg ?hd ?po ?sa ?mk ?kc ?nF ?nL ?nA ?g_n3 ?g_n6 ?g_n10 ?g_nW ?g_nM ?b_len ?b_range ?b_max ?b_min ?b_sum ?b_zip ?b_enum ?b_sorted ?b_any ?b_all
    (case a1 => k_is)
    (case l1 => k_is)
    (case c1 => k_is)
    (case k1 => k_is)
    (case a2 => k_is)
    (case l2 => k_is)
    (case c2 => k_is)
    (case k2 => k_is)
    (case a3 => k_is)
    (case l3 => k_is)
    (case c3 => k_is)
    (case k3 => k_is)
    (case a4 => k_is)
    (case l4 => k_is)
    (case c4 => k_is)
    (case k4 => k_is)
    (case a5 => k_is)
    (case l5 => k_is)
    (case c5 => k_is)
    (case k5 => k_is)
    (case a6 => k_is)
    (case l6 => k_is)
    (case c6 => k_is)
    (case k6 => k_is)
    (case a7 => k_is)
    (case l7 => k_is)
    (case c7 => k_is)
    (case k7 => k_is)
    (case a8 => k_is)
    (case l8 => k_is)
    (case c8 => k_is)
    (case k8 => k_is)
    (case a9 => k_is)
    (case l9 => k_is)
    (case c9 => k_is)
    (case k9 => k_is)
    (case a10 => k_is)
    (case l10 => k_is)
    (case c10 => k_is)
    (case k10 => k_is)
    (case aC => k_is)
    (case aI => k_is)
    (case iI => k_is)
    (case lI => k_is)
    (case cI => k_is)
    (case kI => k_is)
    (case aU => k_is)
    (case iU => k_is)
    (case lU => k_is)
    (case cU => k_is)
    (case kU => k_is)
    (case pg => k_is)
    (case hd => k_is)
    (case po => k_is)
    (case sa => k_is)
    (case mk => k_is)
    (case kc => k_is)
    (case nF => k_is)
    (case nL => k_is)
    (case nA => k_is)
    (case g_n3 => k_is)
    (case g_n6 => k_is)
    (case g_n10 => k_is)
    (case g_nW => k_is)
    (case g_nM => k_is)
    (case b_len => k_is)
    (case b_range => k_is)
    (case b_max => k_is)
    (case b_min => k_is)
    (case b_sum => k_is)
    (case b_zip => k_is)
    (case b_enum => k_is)
    (case b_sorted => k_is)
    (case b_any => k_is)
    (case b_all => k_is)
  case S =>
    intro K H xs a hO hwi hask hx
    exact Fl.row_says K H xs a hwi hx
#print axioms PySem.Challenge.cw_freshlots_s06_check_plan_holds
