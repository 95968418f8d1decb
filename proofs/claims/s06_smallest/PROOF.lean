import PyProof.Rows.All
import Wide.All
import OpenK.AllK
import Wide.FinOn
import Open.SpecLaws
import KE.OsGo
import HandS.ForSpec
import HandS.Iter
import HandS.WideBits
import HandS.Comp
import PySem.Challenge.RW_cabinets_s06_smallest
set_option Elab.async false
set_option linter.all false
set_option maxRecDepth 100000
set_option maxHeartbeats 4000000
namespace Cab
open Ks464 (House two okHouse parties members seatsOf hate like sits voting passes has)

def hOf (a l k : List Nat) : House := { seats := a, likes := two l, hates := two k }
def seatsOk (a : List Nat) : Bool := decide (a.length ≤ 6) && a.all fun s => decide (1 ≤ s) && decide (s ≤ 200)
def pairOk (n : Nat) (x : Nat × Nat) : Bool := decide (x.1 < n) && decide (x.2 < n) && x.1 != x.2
def pairsOk (l : List Nat) (n : Nat) : Bool := (decide (l.length ≤ 40) && decide (l.length % 2 = 0)) && (two l).all (pairOk n)
def houseOk (a l k : List Nat) : Bool := seatsOk a && (pairsOk l a.length && pairsOk k a.length)

theorem okHouse_eq (a l k : List Nat) : okHouse (hOf a l k) = (seatsOk a && ((two l).all (pairOk a.length) && (two k).all (pairOk a.length))) := by
  show (decide (a.length ≤ 6) && (a.all fun s => decide (1 ≤ s) && decide (s ≤ 200)) && (two l ++ two k).all (pairOk a.length)) = _
  rw [List.all_append]
  rfl

theorem given_eq (a l k : List Nat) (f : House → Ks464.Ans) : Ks464.given a l k f = if houseOk a l k = true then f (hOf a l k) else Ks464.no (-22) := by
  unfold Ks464.given
  by_cases c : l.length % 2 ≠ 0 ∨ k.length % 2 ≠ 0 ∨ 40 < l.length ∨ 40 < k.length
  · rw [if_pos c]
    have h : houseOk a l k = false := by
      unfold houseOk pairsOk
      rcases c with c | c | c | c
      · have e : decide (l.length % 2 = 0) = false := decide_eq_false c
        simp [e]
      · have e : decide (k.length % 2 = 0) = false := decide_eq_false c
        simp [e]
      · have e : decide (l.length ≤ 40) = false := decide_eq_false (by omega)
        simp [e]
      · have e : decide (k.length ≤ 40) = false := decide_eq_false (by omega)
        simp [e]
    rw [h, if_neg Bool.false_ne_true]
  · rw [if_neg c]
    show (if okHouse (hOf a l k) then f (hOf a l k) else Ks464.no (-22)) = _
    have e : okHouse (hOf a l k) = houseOk a l k := by
      rw [okHouse_eq]
      have e1 : decide (l.length % 2 = 0) = true := decide_eq_true (by omega)
      have e2 : decide (k.length % 2 = 0) = true := decide_eq_true (by omega)
      have e3 : decide (l.length ≤ 40) = true := decide_eq_true (by omega)
      have e4 : decide (k.length ≤ 40) = true := decide_eq_true (by omega)
      unfold houseOk pairsOk
      rw [e1, e2, e3, e4]
      rfl
    rw [e]

/-! ### pairs by their places -/
theorem two_len : ∀ l : List Nat, (two l).length = l.length / 2
  | [] => rfl
  | [x] => by
    show 0 = (0 + 1) / 2
    omega
  | a :: b :: l => by
    show (two l).length + 1 = (l.length + 1 + 1) / 2
    rw [two_len l]
    omega
theorem two_at : ∀ {l : List Nat} {i : Nat} {x : Nat × Nat}, (two l)[i]? = some x → l[2 * i]? = some x.1 ∧ l[2 * i + 1]? = some x.2
  | [], i, x, h => by simp [two] at h
  | [_], i, x, h => by simp [two] at h
  | a :: b :: l, 0, x, h => by
    have e : (a, b) = x := Option.some.inj h
    subst e
    exact ⟨rfl, rfl⟩
  | a :: b :: l, i + 1, x, h => by
    have ih := two_at (l := l) (i := i) (x := x) h
    have e : 2 * (i + 1) = 2 * i + 1 + 1 := by omega
    rw [e]
    exact ih

/-! ### a list's first items -/
theorem take_more {α : Type} : ∀ {l : List α} {i : Nat} {x : α}, l[i]? = some x → l.take (i + 1) = l.take i ++ [x]
  | [], i, x, h => by simp at h
  | a :: l, 0, x, h => by
    have e : a = x := Option.some.inj h
    subst e
    rfl
  | a :: l, i + 1, x, h => by
    have ih := take_more (l := l) (i := i) (x := x) h
    show a :: l.take (i + 1) = a :: l.take i ++ [x]
    rw [ih]
    rfl
theorem all_more {α : Type} {p : α → Bool} {l : List α} {i : Nat} {x : α} (h : l[i]? = some x) (q : (l.take i).all p = true) (px : p x = true) : (l.take (i + 1)).all p = true := by
  rw [take_more h, List.all_append, q]
  simp [px]
theorem all_not {α : Type} {p : α → Bool} {l : List α} {i : Nat} {x : α} (h : l[i]? = some x) (px : p x = false) : l.all p = false := by
  have m : x ∈ l := List.mem_of_getElem? h
  cases e : l.all p with
  | false => rfl
  | true => rw [List.all_eq_true.mp e x m] at px; cases px
theorem any_more {α : Type} {p : α → Bool} {l : List α} {i : Nat} {x : α} (h : l[i]? = some x) (q : (l.take i).any p = false) (px : p x = false) : (l.take (i + 1)).any p = false := by
  rw [take_more h, List.any_append, q]
  simp [px]
theorem any_yes {α : Type} {p : α → Bool} {l : List α} {i : Nat} {x : α} (h : l[i]? = some x) (px : p x = true) : l.any p = true :=
  List.any_eq_true.mpr ⟨x, List.mem_of_getElem? h, px⟩

/-! ### who votes how -/
def likesOne (i s : Nat) (l : List (Nat × Nat)) : Bool := l.any fun x => x.1 == i && s.testBit x.2
def hatesOne (i s : Nat) (l : List (Nat × Nat)) : Bool := l.any fun x => (x.1 == i && s.testBit x.2) || (x.2 == i && s.testBit x.1)
def wayOf (i s : Nat) (l k : List (Nat × Nat)) : Nat := if s.testBit i = true then 0 else if hatesOne i s k = true then 1 else if likesOne i s l = true then 0 else 2
theorem way_lt (i s : Nat) (l k : List (Nat × Nat)) : wayOf i s l k < 3 := by
  unfold wayOf
  split
  · omega
  · split
    · omega
    · split <;> omega

structure Good (h : House) : Prop where
  len : h.seats.length ≤ 6
  lk : ∀ x ∈ h.likes, x.1 < h.seats.length ∧ x.2 < h.seats.length
  ht : ∀ x ∈ h.hates, x.1 < h.seats.length ∧ x.2 < h.seats.length
  st : ∀ x ∈ h.seats, x ≤ 200
theorem pairsOk_even {l : List Nat} {n : Nat} (h : pairsOk l n = true) : l.length % 2 = 0 := by
  unfold pairsOk at h
  rw [Bool.and_eq_true, Bool.and_eq_true] at h
  exact of_decide_eq_true h.1.2
theorem pairsOk_in {l : List Nat} {n : Nat} (h : pairsOk l n = true) (x : Nat × Nat) (m : x ∈ two l) : x.1 < n ∧ x.2 < n := by
  unfold pairsOk at h
  rw [Bool.and_eq_true] at h
  have q := List.all_eq_true.mp h.2 x m
  unfold pairOk at q
  rw [Bool.and_eq_true, Bool.and_eq_true] at q
  exact ⟨of_decide_eq_true q.1.1, of_decide_eq_true q.1.2⟩
theorem houseOk_all {a l k : List Nat} (h : houseOk a l k = true) : seatsOk a = true ∧ pairsOk l a.length = true ∧ pairsOk k a.length = true := by
  unfold houseOk at h
  rw [Bool.and_eq_true, Bool.and_eq_true] at h
  exact ⟨h.1, h.2.1, h.2.2⟩
theorem seatsOk_len {a : List Nat} (h : seatsOk a = true) : a.length ≤ 6 := by
  unfold seatsOk at h
  rw [Bool.and_eq_true] at h
  exact of_decide_eq_true h.1
theorem seatsOk_le {a : List Nat} (h : seatsOk a = true) : ∀ x ∈ a, x ≤ 200 := fun x m => by
  unfold seatsOk at h
  rw [Bool.and_eq_true] at h
  have q := List.all_eq_true.mp h.2 x m
  rw [Bool.and_eq_true] at q
  exact of_decide_eq_true q.2
theorem good_of {a l k : List Nat} (h : houseOk a l k = true) : Good (hOf a l k) := by
  obtain ⟨h1, h2, h3⟩ := houseOk_all h
  exact ⟨seatsOk_len h1, fun x m => pairsOk_in h2 x m, fun x m => pairsOk_in h3 x m, seatsOk_le h1⟩

theorem mem_members {h : House} {s j : Nat} : j ∈ members h s ↔ j < h.seats.length ∧ s.testBit j = true := by
  unfold members parties has
  rw [List.mem_filter, List.mem_range]
theorem like_any {h : House} (g : Good h) (s i : Nat) : (members h s).any (like h i) = likesOne i s h.likes := by
  rw [Bool.eq_iff_iff, List.any_eq_true]
  unfold likesOne
  rw [List.any_eq_true]
  constructor
  · rintro ⟨j, hj, q⟩
    unfold like at q
    have m : (i, j) ∈ h.likes := List.contains_iff_mem.mp q
    exact ⟨(i, j), m, by simp [(mem_members.mp hj).2]⟩
  · rintro ⟨⟨x, y⟩, m, q⟩
    rw [Bool.and_eq_true] at q
    have e : x = i := by simpa using q.1
    subst e
    exact ⟨y, mem_members.mpr ⟨(g.lk _ m).2, q.2⟩, List.contains_iff_mem.mpr m⟩
theorem hate_any {h : House} (g : Good h) (s i : Nat) : (members h s).any (hate h i) = hatesOne i s h.hates := by
  rw [Bool.eq_iff_iff, List.any_eq_true]
  unfold hatesOne
  rw [List.any_eq_true]
  constructor
  · rintro ⟨j, hj, q⟩
    unfold hate at q
    rw [Bool.or_eq_true] at q
    have b := (mem_members.mp hj).2
    rcases q with q | q
    · exact ⟨(i, j), List.contains_iff_mem.mp q, by simp [b]⟩
    · exact ⟨(j, i), List.contains_iff_mem.mp q, by simp [b]⟩
  · rintro ⟨⟨x, y⟩, m, q⟩
    rw [Bool.or_eq_true, Bool.and_eq_true, Bool.and_eq_true] at q
    rcases q with q | q
    · have e : x = i := by simpa using q.1
      subst e
      exact ⟨y, mem_members.mpr ⟨(g.ht _ m).2, q.2⟩, by unfold hate; rw [List.contains_iff_mem.mpr m]; rfl⟩
    · have e : y = i := by simpa using q.1
      subst e
      exact ⟨x, mem_members.mpr ⟨(g.ht _ m).1, q.2⟩, by unfold hate; rw [List.contains_iff_mem.mpr m, Bool.or_true]⟩
theorem vote_way {h : House} (g : Good h) (s i : Nat) : Ks464.vote h s i = wayOf i s h.likes h.hates := by
  unfold Ks464.vote wayOf has
  rw [hate_any g, like_any g]

/-! ### the votes, party by party -/
def cnt (a : List Nat) (w : Nat → Nat) (v : Nat) : Nat → Nat
  | 0 => 0
  | i + 1 => cnt a w v i + if w i = v then a.getD i 0 else 0
theorem cnt_fold (a : List Nat) (w : Nat → Nat) (v : Nat) : ∀ m, ((List.range m).filter fun i => w i == v).foldl (fun k i => k + a.getD i 0) 0 = cnt a w v m
  | 0 => rfl
  | m + 1 => by
    rw [List.range_succ, List.filter_append, List.foldl_append, cnt_fold a w v m]
    by_cases c : w m = v
    · have e : (w m == v) = true := by simp [c]
      rw [List.filter_cons, if_pos e]
      show cnt a w v m + a.getD m 0 = cnt a w v m + if w m = v then a.getD m 0 else 0
      rw [if_pos c]
    · have e : ¬ (w m == v) = true := by simp [c]
      rw [List.filter_cons, if_neg e]
      show cnt a w v m = cnt a w v m + if w m = v then a.getD m 0 else 0
      rw [if_neg c]
      rfl
theorem voting_eq {h : House} (g : Good h) (s v : Nat) : voting h s v = cnt h.seats (fun i => wayOf i s h.likes h.hates) v h.seats.length := by
  unfold voting seatsOf parties
  have e : (fun i => Ks464.vote h s i == v) = fun i => wayOf i s h.likes h.hates == v := by
    funext i
    rw [vote_way g]
  rw [e]
  exact cnt_fold _ _ _ _
/-- all votes so far -/
def sumTo (a : List Nat) : Nat → Nat
  | 0 => 0
  | i + 1 => sumTo a i + a.getD i 0
theorem sumTo_fold (a : List Nat) : ∀ m, (List.range m).foldl (fun k i => k + a.getD i 0) 0 = sumTo a m
  | 0 => rfl
  | m + 1 => by
    rw [List.range_succ, List.foldl_append, sumTo_fold a m]
    rfl
theorem all_eq (h : House) : Ks464.all h = sumTo h.seats h.seats.length := sumTo_fold _ _
theorem cnt_sum (a : List Nat) (w : Nat → Nat) (hw : ∀ i, w i < 3) : ∀ m, cnt a w 0 m + cnt a w 1 m + cnt a w 2 m = sumTo a m
  | 0 => rfl
  | m + 1 => by
    have ih := cnt_sum a w hw m
    have q := hw m
    show (cnt a w 0 m + if w m = 0 then a.getD m 0 else 0) + (cnt a w 1 m + if w m = 1 then a.getD m 0 else 0) + (cnt a w 2 m + if w m = 2 then a.getD m 0 else 0) = sumTo a m + a.getD m 0
    have c : w m = 0 ∨ w m = 1 ∨ w m = 2 := by omega
    rcases c with c | c | c <;> rw [c] <;> simp <;> omega
theorem cnt_le (a : List Nat) (w : Nat → Nat) (v : Nat) : ∀ m, cnt a w v m ≤ sumTo a m
  | 0 => Nat.le_refl _
  | m + 1 => by
    have ih := cnt_le a w v m
    show cnt a w v m + (if w m = v then a.getD m 0 else 0) ≤ sumTo a m + a.getD m 0
    split <;> omega
theorem getD_le {a : List Nat} (h : ∀ x ∈ a, x ≤ 200) (i : Nat) : a.getD i 0 ≤ 200 := by
  rw [List.getD_eq_getElem?_getD]
  cases e : a[i]? with
  | none => simp
  | some x => exact h x (List.mem_of_getElem? e)
theorem sumTo_le {a : List Nat} (h : ∀ x ∈ a, x ≤ 200) : ∀ m, sumTo a m ≤ 200 * m
  | 0 => Nat.le_refl _
  | m + 1 => by
    have ih := sumTo_le h m
    have q := getD_le h m
    show sumTo a m + a.getD m 0 ≤ 200 * (m + 1)
    omega
def votes (a : List Nat) (s : Nat) (l k : List (Nat × Nat)) (m : Nat) : List Nat :=
  [cnt a (fun i => wayOf i s l k) 0 m, cnt a (fun i => wayOf i s l k) 1 m, cnt a (fun i => wayOf i s l k) 2 m]
theorem votes_len {a : List Nat} {s : Nat} {l k : List (Nat × Nat)} {m : Nat} : (votes a s l k m).length = 3 := rfl
theorem votes_get (a : List Nat) (s : Nat) (l k : List (Nat × Nat)) (m : Nat) {v : Nat} (h : v < 3) : (votes a s l k m)[v]? = some (cnt a (fun i => wayOf i s l k) v m) := by
  have c : v = 0 ∨ v = 1 ∨ v = 2 := by omega
  rcases c with c | c | c <;> subst c <;> rfl
theorem votes_more {a : List Nat} {s : Nat} {l k : List (Nat × Nat)} {m x : Nat} (h : a[m]? = some x) : votes a s l k (m + 1) = (votes a s l k m).set (wayOf m s l k) (cnt a (fun i => wayOf i s l k) (wayOf m s l k) m + x) := by
  have q := way_lt m s l k
  have e : a.getD m 0 = x := by rw [List.getD_eq_getElem?_getD, h]; rfl
  have st : ∀ v, cnt a (fun i => wayOf i s l k) v (m + 1) = cnt a (fun i => wayOf i s l k) v m + if wayOf m s l k = v then x else 0 := fun v => by rw [← e]; rfl
  unfold votes
  rw [st 0, st 1, st 2]
  have c : wayOf m s l k = 0 ∨ wayOf m s l k = 1 ∨ wayOf m s l k = 2 := by omega
  rcases c with c | c | c <;> rw [c] <;> rfl

/-! ### a cabinet -/
def cabinet (s : Nat) (k : List (Nat × Nat)) : Bool := s != 0 && k.all fun x => !(s.testBit x.1 && s.testBit x.2)
theorem sits_eq {h : House} (g : Good h) (s : Nat) : sits h s = cabinet s h.hates := by
  unfold sits cabinet
  congr 1
  rw [Bool.eq_iff_iff, List.all_eq_true, List.all_eq_true]
  constructor
  · rintro q ⟨x, y⟩ m
    by_cases c : s.testBit x = true ∧ s.testBit y = true
    · have hx := mem_members.mpr ⟨(g.ht _ m).1, c.1⟩
      have hy := mem_members.mpr ⟨(g.ht _ m).2, c.2⟩
      have z := List.all_eq_true.mp (q x hx) y hy
      unfold hate at z
      rw [List.contains_iff_mem.mpr m] at z
      cases z
    · rw [Bool.not_eq_true', ← Bool.not_eq_true, Bool.and_eq_true]
      exact c
  · intro q i hi
    rw [List.all_eq_true]
    intro j hj
    cases e : hate h i j with
    | false => rfl
    | true =>
      unfold hate at e
      rw [Bool.or_eq_true] at e
      have bi := (mem_members.mp hi).2
      have bj := (mem_members.mp hj).2
      rcases e with e | e
      · have z := q _ (List.contains_iff_mem.mp e)
        simp [bi, bj] at z
      · have z := q _ (List.contains_iff_mem.mp e)
        simp [bi, bj] at z
/-- what the rule asks, of the three numbers of votes -/
def rulePass (r f g n : Nat) : Bool := if r = 0 then decide (g < f) else if r = 1 then decide (f + g + n < 2 * f) else decide (2 * g ≤ f + g + n)
theorem passes_eq {h : House} (g : Good h) (r s : Nat) : passes h r s = rulePass r (voting h s 0) (voting h s 1) (voting h s 2) := by
  have e : Ks464.all h = voting h s 0 + voting h s 1 + voting h s 2 := by
    rw [all_eq, voting_eq g, voting_eq g, voting_eq g]
    exact (cnt_sum _ _ (fun i => way_lt i s _ _) _).symm
  unfold passes rulePass
  rw [e]
  match r with
  | 0 => rfl
  | 1 => rfl
  | r + 2 =>
    rw [if_neg (by omega), if_neg (by omega)]
    rfl
def standB (r s : Nat) (a : List Nat) (l k : List (Nat × Nat)) : Bool :=
  cabinet s k && rulePass r (cnt a (fun i => wayOf i s l k) 0 a.length) (cnt a (fun i => wayOf i s l k) 1 a.length) (cnt a (fun i => wayOf i s l k) 2 a.length)
theorem stands_eq {h : House} (g : Good h) (r s : Nat) : Ks464.stands h r s = standB r s h.seats h.likes h.hates := by
  unfold Ks464.stands standB
  rw [sits_eq g, passes_eq g, voting_eq g, voting_eq g, voting_eq g]

/-! ### the answers -/
theorem ans_vote (s : Nat) (a l k : List Nat) : Ks464Neutral.out (Ks464.answer (.vote s a l k)) =
    if houseOk a l k = true then (if s < 2 ^ a.length then (votes a s (two l) (two k) a.length).map Int.ofNat else [-2]) else [-22] := by
  show Ks464Neutral.out (Ks464.given a l k _) = _
  rw [given_eq]
  by_cases c : houseOk a l k = true
  · rw [if_pos c, if_pos c]
    have g := good_of c
    show Ks464Neutral.out (Ks464.set_ (hOf a l k) s _) = _
    unfold Ks464.set_
    show Ks464Neutral.out (if s < 2 ^ a.length then _ else _) = _
    by_cases d : s < 2 ^ a.length
    · rw [if_pos d, if_pos d, voting_eq g, voting_eq g, voting_eq g]
      rfl
    · rw [if_neg d, if_neg d]
      rfl
  · rw [if_neg c, if_neg c]
    rfl
theorem ans_stands (r s : Nat) (a l k : List Nat) : Ks464Neutral.out (Ks464.answer (.stands r s a l k)) =
    if (houseOk a l k && decide (r ≤ 2)) = true then (if s < 2 ^ a.length then [if standB r s a (two l) (two k) = true then 1 else 0] else [-2]) else [-22] := by
  show Ks464Neutral.out (Ks464.given a l k _) = _
  rw [given_eq]
  by_cases c : houseOk a l k = true
  · rw [if_pos c]
    have g := good_of c
    unfold Ks464.rule
    by_cases e : r ≤ 2
    · have ce : (houseOk a l k && decide (r ≤ 2)) = true := by rw [c, decide_eq_true e]; rfl
      rw [if_neg (by omega), if_pos ce]
      show Ks464Neutral.out (Ks464.set_ (hOf a l k) s _) = _
      unfold Ks464.set_
      show Ks464Neutral.out (if s < 2 ^ a.length then _ else _) = _
      by_cases d : s < 2 ^ a.length
      · rw [if_pos d, if_pos d, stands_eq g]
        show Ks464Neutral.out (Ks464.no (if standB r s a (two l) (two k) = true then 1 else 0)) = _
        rfl
      · rw [if_neg d, if_neg d]
        rfl
    · rw [if_pos (by omega), if_neg (by rw [decide_eq_false e, Bool.and_false]; exact Bool.false_ne_true)]
      rfl
  · rw [if_neg c, if_neg (by rw [Bool.and_eq_true]; exact fun q => c q.1)]
    rfl
theorem py_vote (s : Int) (a l k : List Int) : PyKs464.vote s a l k = Ks464Neutral.out (Ks464.answer (.vote s.toNat (a.map Int.toNat) (l.map Int.toNat) (k.map Int.toNat))) := rfl
theorem py_stands (r s : Int) (a l k : List Int) : PyKs464.stands r s a l k = Ks464Neutral.out (Ks464.answer (.stands r.toNat s.toNat (a.map Int.toNat) (l.map Int.toNat) (k.map Int.toNat))) := rfl
/-! ### the sets that stand, and those that none can leave -/
def standL (r : Nat) (a : List Nat) (l k : List (Nat × Nat)) (m : Nat) : List Nat := (List.range m).filter fun s => standB r s a l k
theorem standing_eq {h : House} (g : Good h) (r : Nat) : Ks464.standing h r = standL r h.seats h.likes h.hates (2 ^ h.seats.length) := by
  unfold Ks464.standing Ks464.sets standL
  have e : Ks464.stands h r = fun s => standB r s h.seats h.likes h.hates := by
    funext s
    exact stands_eq g r s
  rw [e]
theorem standL_more (r : Nat) (a : List Nat) (l k : List (Nat × Nat)) (m : Nat) : standL r a l k (m + 1) = if standB r m a l k = true then standL r a l k m ++ [m] else standL r a l k m := by
  unfold standL
  rw [List.range_succ, List.filter_append]
  by_cases c : standB r m a l k = true
  · rw [if_pos c, List.filter_cons, if_pos c]
    rfl
  · rw [if_neg c, List.filter_cons, if_neg c]
    exact List.append_nil _
theorem standL_len (r : Nat) (a : List Nat) (l k : List (Nat × Nat)) (m : Nat) : (standL r a l k m).length ≤ m := by
  have q := List.length_filter_le (fun s => standB r s a l k) (List.range m)
  rw [List.length_range] at q
  exact q
theorem standL_mem {r : Nat} {a : List Nat} {l k : List (Nat × Nat)} {m s : Nat} : s ∈ standL r a l k m ↔ s < m ∧ standB r s a l k = true := by
  unfold standL
  rw [List.mem_filter, List.mem_range]
/-- none of the first n can leave s -/
def stay (s : Nat) (L : List Nat) (i : Nat) : Bool := !(s.testBit i && L.contains (s - 2 ^ i))
def tightL (L : List Nat) (n : Nat) : List Nat := L.filter fun s => (List.range n).all (stay s L)
theorem tight_eq {h : House} (g : Good h) (r : Nat) : Ks464.tight h r = tightL (standL r h.seats h.likes h.hates (2 ^ h.seats.length)) h.seats.length := by
  unfold Ks464.tight tightL
  rw [standing_eq g]
  refine List.filter_congr fun s hs => ?_
  have lt := (standL_mem.mp hs).1
  rw [Bool.eq_iff_iff, List.all_eq_true, List.all_eq_true]
  constructor
  · intro q i hi
    unfold stay
    cases b : s.testBit i with
    | false => rfl
    | true =>
      have z := q i (mem_members.mpr ⟨List.mem_range.mp hi, b⟩)
      rw [stands_eq g] at z
      cases c : (standL r h.seats h.likes h.hates (2 ^ h.seats.length)).contains (s - 2 ^ i) with
      | false => rfl
      | true =>
        have w := (standL_mem.mp (List.contains_iff_mem.mp c)).2
        rw [w] at z
        cases z
  · intro q i hi
    have m := mem_members.mp hi
    have z := q i (List.mem_range.mpr m.1)
    unfold stay at z
    rw [m.2] at z
    rw [stands_eq g]
    cases c : standB r (s - 2 ^ i) h.seats h.likes h.hates with
    | false => rfl
    | true =>
      have w : (standL r h.seats h.likes h.hates (2 ^ h.seats.length)).contains (s - 2 ^ i) = true := List.contains_iff_mem.mpr (standL_mem.mpr ⟨Nat.lt_of_le_of_lt (Nat.sub_le s (2 ^ i)) lt, c⟩)
      rw [w] at z
      cases z
theorem bit_le {s i : Nat} (h : s.testBit i = true) : 2 ^ i ≤ s := by
  rcases Nat.lt_or_ge s (2 ^ i) with c | c
  · rw [Nat.testBit_lt_two_pow c] at h
    cases h
  · exact c
theorem filter_more {α : Type} {p : α → Bool} {l : List α} {i : Nat} {x : α} (h : l[i]? = some x) : (l.take (i + 1)).filter p = if p x = true then (l.take i).filter p ++ [x] else (l.take i).filter p := by
  rw [take_more h, List.filter_append]
  by_cases c : p x = true
  · rw [if_pos c, List.filter_cons, if_pos c]
    rfl
  · rw [if_neg c, List.filter_cons, if_neg c]
    exact List.append_nil _
theorem range_at {n i : Nat} (h : i < n) : (List.range n)[i]? = some i := by
  rw [List.getElem?_range h]

theorem with_rule (r : Nat) (a l k : List Nat) (f : House → Ks464.Ans) : Ks464Neutral.out (Ks464.given a l k fun h => Ks464.rule r fun _ => f h) =
    if (houseOk a l k && decide (r ≤ 2)) = true then Ks464Neutral.out (f (hOf a l k)) else [-22] := by
  rw [given_eq]
  by_cases c : houseOk a l k = true
  · rw [if_pos c]
    unfold Ks464.rule
    by_cases e : r ≤ 2
    · have ce : (houseOk a l k && decide (r ≤ 2)) = true := by rw [c, decide_eq_true e]; rfl
      rw [if_neg (by omega), if_pos ce]
    · rw [if_pos (by omega), if_neg (by rw [decide_eq_false e, Bool.and_false]; exact Bool.false_ne_true)]
      rfl
  · rw [if_neg c, if_neg (by rw [Bool.and_eq_true]; exact fun q => c q.1)]
    rfl
theorem with_rule' (r : Nat) (a l k : List Nat) {f : House → Ks464.Ans} {z : List Int} (h : houseOk a l k = true → Ks464Neutral.out (f (hOf a l k)) = z) : Ks464Neutral.out (Ks464.given a l k fun h => Ks464.rule r fun _ => f h) =
    if (houseOk a l k && decide (r ≤ 2)) = true then z else [-22] := by
  rw [with_rule]
  by_cases c : (houseOk a l k && decide (r ≤ 2)) = true
  · rw [if_pos c, if_pos c]
    rw [Bool.and_eq_true] at c
    exact h c.1
  · rw [if_neg c, if_neg c]
/-- the sets that stand in a house as told -/
abbrev allL (r : Nat) (a l k : List Nat) : List Nat := standL r a (two l) (two k) (2 ^ a.length)
theorem ans_standing (r : Nat) (a l k : List Nat) : Ks464Neutral.out (Ks464.answer (.standing r a l k)) =
    if (houseOk a l k && decide (r ≤ 2)) = true then ((allL r a l k).length :: allL r a l k).map Int.ofNat else [-22] :=
  with_rule' r a l k (f := fun h => Ks464.rows (Ks464.standing h r)) fun c => by
    show Ks464Neutral.out (Ks464.rows (Ks464.standing (hOf a l k) r)) = _
    rw [standing_eq (good_of c)]
    rfl
theorem ans_tight (r : Nat) (a l k : List Nat) : Ks464Neutral.out (Ks464.answer (.tight r a l k)) =
    if (houseOk a l k && decide (r ≤ 2)) = true then ((tightL (allL r a l k) a.length).length :: tightL (allL r a l k) a.length).map Int.ofNat else [-22] :=
  with_rule' r a l k (f := fun h => Ks464.rows (Ks464.tight h r)) fun c => by
    show Ks464Neutral.out (Ks464.rows (Ks464.tight (hOf a l k) r)) = _
    rw [tight_eq (good_of c)]
    rfl
/-- with how little: the first of the list among those of the least measure -/
def leastF (f : Nat → Nat) (L : List Nat) : List Int := match Ks464.leastBy f L with
  | none => [-33]
  | some s => [Int.ofNat (f s), Int.ofNat s]
theorem ans_fewest (r : Nat) (a l k : List Nat) : Ks464Neutral.out (Ks464.answer (.fewest r a l k)) =
    if (houseOk a l k && decide (r ≤ 2)) = true then leastF (fun s => (members (hOf a l k) s).length) (allL r a l k) else [-22] :=
  with_rule' r a l k (f := fun h => match Ks464.fewest h r with
    | none => Ks464.no (-33)
    | some s => { ret := (members h s).length, out := [s] }) fun c => by
    show Ks464Neutral.out (match Ks464.leastBy (fun s => (members (hOf a l k) s).length) (Ks464.standing (hOf a l k) r) with
    | none => Ks464.no (-33)
    | some s => { ret := (members (hOf a l k) s).length, out := [s] }) = _
    rw [standing_eq (good_of c)]
    unfold leastF
    show Ks464Neutral.out (match Ks464.leastBy (fun s => (members (hOf a l k) s).length) (allL r a l k) with
    | none => Ks464.no (-33)
    | some s => { ret := (members (hOf a l k) s).length, out := [s] }) = _
    cases Ks464.leastBy (fun s => (members (hOf a l k) s).length) (allL r a l k) <;> rfl
theorem ans_smallest (r : Nat) (a l k : List Nat) : Ks464Neutral.out (Ks464.answer (.smallest r a l k)) =
    if (houseOk a l k && decide (r ≤ 2)) = true then leastF (fun s => seatsOf (hOf a l k) (members (hOf a l k) s)) (allL r a l k) else [-22] :=
  with_rule' r a l k (f := fun h => match Ks464.smallest h r with
    | none => Ks464.no (-33)
    | some s => { ret := seatsOf h (members h s), out := [s] }) fun c => by
    show Ks464Neutral.out (match Ks464.leastBy (fun s => seatsOf (hOf a l k) (members (hOf a l k) s)) (Ks464.standing (hOf a l k) r) with
    | none => Ks464.no (-33)
    | some s => { ret := seatsOf (hOf a l k) (members (hOf a l k) s), out := [s] }) = _
    rw [standing_eq (good_of c)]
    unfold leastF
    show Ks464Neutral.out (match Ks464.leastBy (fun s => seatsOf (hOf a l k) (members (hOf a l k) s)) (allL r a l k) with
    | none => Ks464.no (-33)
    | some s => { ret := seatsOf (hOf a l k) (members (hOf a l k) s), out := [s] }) = _
    cases Ks464.leastBy (fun s => seatsOf (hOf a l k) (members (hOf a l k) s)) (allL r a l k) <;> rfl
theorem ans_part (r i : Nat) (a l k : List Nat) : Ks464Neutral.out (Ks464.answer (.part r i a l k)) =
    if (houseOk a l k && decide (r ≤ 2)) = true then (if a.length ≤ i then [-2] else [Int.ofNat ((allL r a l k).filter fun s => s.testBit i).length, Int.ofNat (allL r a l k).length]) else [-22] :=
  with_rule' r a l k (f := fun h => if h.seats.length ≤ i then Ks464.no (-2) else { ret := ((Ks464.standing h r).filter fun s => has s i).length, out := [(Ks464.standing h r).length] }) fun c => by
    show Ks464Neutral.out (if a.length ≤ i then Ks464.no (-2) else { ret := ((Ks464.standing (hOf a l k) r).filter fun s => has s i).length, out := [(Ks464.standing (hOf a l k) r).length] }) = _
    rw [standing_eq (good_of c)]
    by_cases d : a.length ≤ i
    · rw [if_pos d, if_pos d]
      rfl
    · rw [if_neg d, if_neg d]
      rfl
theorem py_standing (r : Int) (a l k : List Int) : PyKs464.standing r a l k = Ks464Neutral.out (Ks464.answer (.standing r.toNat (a.map Int.toNat) (l.map Int.toNat) (k.map Int.toNat))) := rfl
theorem py_tight (r : Int) (a l k : List Int) : PyKs464.tight r a l k = Ks464Neutral.out (Ks464.answer (.tight r.toNat (a.map Int.toNat) (l.map Int.toNat) (k.map Int.toNat))) := rfl
/-! ### how much those of a set have together; the least of the sets that stand -/
def togL (z : List Nat) (s m : Nat) : List Nat := ((List.range m).filter fun i => s.testBit i).map fun i => z.getD i 0
def tog (z : List Nat) (s : Nat) : Nat := (togL z s z.length).sum
theorem togL_more {z : List Nat} {s m x : Nat} (h : z[m]? = some x) : togL z s (m + 1) = if s.testBit m = true then togL z s m ++ [x] else togL z s m := by
  unfold togL
  rw [List.range_succ, List.filter_append]
  by_cases c : s.testBit m = true
  · rw [if_pos c, List.filter_cons, if_pos c, List.map_append]
    show _ ++ [z.getD m 0] = _
    rw [List.getD_eq_getElem?_getD, h]
    rfl
  · rw [if_neg c, List.filter_cons, if_neg c, List.map_append]
    exact List.append_nil _
theorem togL_len (z : List Nat) (s m : Nat) : (togL z s m).length ≤ m := by
  unfold togL
  have q := List.length_filter_le (fun i => s.testBit i) (List.range m)
  rw [List.length_range] at q
  rw [List.length_map]
  exact q
theorem foldl_sum (g : Nat → Nat) : ∀ (l : List Nat) (n : Nat), l.foldl (fun k i => k + g i) n = n + (l.map g).sum
  | [], n => rfl
  | a :: l, n => by
    show l.foldl (fun k i => k + g i) (n + g a) = n + (g a + (l.map g).sum)
    rw [foldl_sum g l (n + g a)]
    omega
theorem seats_tog (a l k : List Nat) (s : Nat) : seatsOf (hOf a l k) (members (hOf a l k) s) = tog a s := by
  show ((List.range a.length).filter fun i => s.testBit i).foldl (fun k i => k + a.getD i 0) 0 = (((List.range a.length).filter fun i => s.testBit i).map fun i => a.getD i 0).sum
  rw [foldl_sum (fun i => a.getD i 0)]
  omega
theorem ones_sum (n : Nat) : ∀ l : List Nat, (∀ i ∈ l, i < n) → (l.map fun i => (List.replicate n 1).getD i 0).sum = l.length
  | [], _ => rfl
  | i :: l, h => by
    have e : (List.replicate n 1).getD i 0 = 1 := by
      rw [List.getD_eq_getElem?_getD, List.getElem?_replicate, if_pos (h i (List.mem_cons_self ..))]
      rfl
    show (List.replicate n 1).getD i 0 + (l.map fun i => (List.replicate n 1).getD i 0).sum = l.length + 1
    rw [e, ones_sum n l fun j m => h j (List.mem_cons_of_mem _ m)]
    omega
theorem members_tog (a l k : List Nat) (s : Nat) : (members (hOf a l k) s).length = tog (List.replicate a.length 1) s := by
  unfold tog togL
  rw [List.length_replicate, ones_sum a.length _ fun i m => List.mem_range.mp (List.mem_filter.mp m).1]
  rfl
/-- of a rising list: the one that is told is of it, none has less, and of those with as much it is the least -/
theorem fold_first (f : Nat → Nat) : ∀ (l : List Nat) (a : Nat), (a :: l).Pairwise (· < ·) → ∀ b, l.foldl (fun b s => if f s < f b then s else b) a = b →
    b ∈ a :: l ∧ (∀ x ∈ a :: l, f b ≤ f x) ∧ ∀ x ∈ a :: l, f x = f b → b ≤ x
  | [], a, _, b, e => by
    have e : a = b := e
    subst e
    refine ⟨List.mem_cons_self .., fun x m => ?_, fun x m _ => ?_⟩
    · rw [List.mem_singleton.mp m]
      exact Nat.le_refl _
    · rw [List.mem_singleton.mp m]
      exact Nat.le_refl _
  | y :: l, a, p, b, e => by
    obtain ⟨pa, pl⟩ := List.pairwise_cons.mp p
    obtain ⟨py, pl'⟩ := List.pairwise_cons.mp pl
    by_cases c : f y < f a
    · have e' : l.foldl (fun b s => if f s < f b then s else b) y = b := by
        have z : l.foldl (fun b s => if f s < f b then s else b) (if f y < f a then y else a) = b := e
        rw [if_pos c] at z
        exact z
      obtain ⟨h1, h2, h3⟩ := fold_first f l y pl b e'
      have hy := h2 y (List.mem_cons_self ..)
      refine ⟨List.mem_cons_of_mem _ h1, fun x m => ?_, fun x m q => ?_⟩
      · rcases List.mem_cons.mp m with z | m
        · rw [z]
          omega
        · exact h2 x m
      · rcases List.mem_cons.mp m with z | m
        · rw [z] at q
          omega
        · exact h3 x m q
    · have e' : l.foldl (fun b s => if f s < f b then s else b) a = b := by
        have z : l.foldl (fun b s => if f s < f b then s else b) (if f y < f a then y else a) = b := e
        rw [if_neg c] at z
        exact z
      have pal : (a :: l).Pairwise (· < ·) := List.pairwise_cons.mpr ⟨fun x m => pa x (List.mem_cons_of_mem _ m), pl'⟩
      obtain ⟨h1, h2, h3⟩ := fold_first f l a pal b e'
      have ha := h2 a (List.mem_cons_self ..)
      have ay := pa y (List.mem_cons_self ..)
      refine ⟨?_, fun x m => ?_, fun x m q => ?_⟩
      · rcases List.mem_cons.mp h1 with z | m
        · rw [z]
          exact List.mem_cons_self ..
        · exact List.mem_cons_of_mem _ (List.mem_cons_of_mem _ m)
      · rcases List.mem_cons.mp m with z | m
        · rw [z]
          exact ha
        · rcases List.mem_cons.mp m with z | m
          · rw [z]
            omega
          · exact h2 x (List.mem_cons_of_mem _ m)
      · rcases List.mem_cons.mp m with z | m
        · rw [z]
          exact h3 a (List.mem_cons_self ..) (by rw [← z]; exact q)
        · rcases List.mem_cons.mp m with z | m
          · rw [z] at q
            have w := h3 a (List.mem_cons_self ..) (by omega)
            rw [z]
            omega
          · exact h3 x (List.mem_cons_of_mem _ m) q
theorem least_is {f : Nat → Nat} {L : List Nat} {n t : Nat} (p : L.Pairwise (· < ·)) (n1 : n ∈ L.map f) (n2 : ∀ y ∈ L.map f, n ≤ y)
    (t1 : t ∈ L.filter fun s => decide (f s = n)) (t2 : ∀ y ∈ L.filter fun s => decide (f s = n), t ≤ y) : leastF f L = [Int.ofNat n, Int.ofNat t] := by
  cases L with
  | nil => cases n1
  | cons a l =>
    obtain ⟨h1, h2, h3⟩ := fold_first f l a p _ rfl
    show [Int.ofNat (f (l.foldl (fun b s => if f s < f b then s else b) a)), Int.ofNat (l.foldl (fun b s => if f s < f b then s else b) a)] = _
    generalize l.foldl (fun b s => if f s < f b then s else b) a = b at h1 h2 h3
    obtain ⟨x, mx, ex⟩ := List.mem_map.mp n1
    have le1 := h2 x mx
    have le2 := n2 (f b) (List.mem_map.mpr ⟨b, h1, rfl⟩)
    have e : f b = n := by omega
    obtain ⟨mt, et⟩ := List.mem_filter.mp t1
    have et : f t = n := of_decide_eq_true et
    have l1 := h3 t mt (by omega)
    have l2 := t2 b (List.mem_filter.mpr ⟨h1, decide_eq_true e⟩)
    have eb : b = t := by omega
    rw [e, eb]
theorem standL_rise (r : Nat) (a : List Nat) (l k : List (Nat × Nat)) (m : Nat) : (standL r a l k m).Pairwise (· < ·) :=
  List.Pairwise.filter _ List.pairwise_lt_range
theorem map_more {α β : Type} {f : α → β} {l : List α} {i : Nat} {x : α} (h : l[i]? = some x) : (l.take (i + 1)).map f = (l.take i).map f ++ [f x] := by
  rw [take_more h, List.map_append]
  rfl
theorem flat_ones : ∀ n : Nat, (List.replicate n [1]).flatten = List.replicate n 1
  | 0 => rfl
  | n + 1 => by
    show [1] ++ (List.replicate n [1]).flatten = 1 :: List.replicate n 1
    rw [flat_ones n]
    rfl
theorem fewest_tog (r : Nat) (a l k : List Nat) : Ks464Neutral.out (Ks464.answer (.fewest r a l k)) =
    if (houseOk a l k && decide (r ≤ 2)) = true then leastF (tog (List.replicate a.length 1)) (allL r a l k) else [-22] := by
  rw [ans_fewest]
  have e : (fun s => (members (hOf a l k) s).length) = tog (List.replicate a.length 1) := by
    funext s
    exact members_tog a l k s
  rw [e]
theorem smallest_tog (r : Nat) (a l k : List Nat) : Ks464Neutral.out (Ks464.answer (.smallest r a l k)) =
    if (houseOk a l k && decide (r ≤ 2)) = true then leastF (tog a) (allL r a l k) else [-22] := by
  rw [ans_smallest]
  have e : (fun s => seatsOf (hOf a l k) (members (hOf a l k) s)) = tog a := by
    funext s
    exact seats_tog a l k s
  rw [e]
end Cab
namespace Cab
open PySem PySem.Spec PyProof.Rows L2
open PySem.W (Codec)
/-! ### words over the layer: whole numbers from 0 on, lists of them, the module's constants -/
def vNs (l : List Nat) : List V := l.map fun (n : Nat) => V.int (n : Int)
theorem vNs_len (l : List Nat) : (vNs l).length = l.length := List.length_map ..
theorem vNs_get {l : List Nat} {i : Nat} {x : V} (h : (vNs l)[i]? = some x) : ∃ n, l[i]? = some n ∧ x = V.int (n : Int) := by
  unfold vNs at h
  rw [List.getElem?_map] at h
  cases e : l[i]? with
  | none =>
    rw [e] at h
    cases h
  | some z =>
    rw [e] at h
    exact ⟨z, rfl, (Option.some.inj h).symm⟩
theorem vNs_at {l : List Nat} {j n : Nat} {z : Int} (h : l[j]? = some n) (e : z = (j : Int)) : atI (vNs l) z = some (V.int (n : Int)) :=
  at_of e (by unfold vNs; rw [List.getElem?_map, h]; rfl)
theorem vNs_set {l : List Nat} {j n : Nat} : (vNs l).set j (V.int (n : Int)) = vNs (l.set j n) := by
  unfold vNs
  rw [List.map_set]
theorem ixN_nat {n j : Nat} (h : j < n) : ixN n (j : Int) = some j := by
  unfold ixN
  rw [if_pos (by omega), if_pos (by omega)]
  simp
/-- the module's name x holds the number i -/
def Cst (mg : Str → Option Value) (x : Str) (i : Int) : Prop := ∃ t, mg x = some (.int i t)
section
variable {X : Cx}
theorem pe_cst {x : Str} {i : Int} {pos : Pos} (h : Cst X.mg x i) (hg : Gl X x := by rfl) (hd : (x == ("__debug__" : Str)) = false := by decide) : PE X (.Name x pos) (tC (.int i)) := by
  obtain ⟨t, h⟩ := h
  exact pe_glob hg h ⟨t, rfl⟩ hd
end
theorem rg2 {n : Nat} (h : n ≤ 1000) (e : n % 2 = 0) : RgC 0 (n : Int) 2 (n / 2) := by
  have z : Builtin.Range.rangeSize 0 (n : Int) 2 = ((n / 2 : Nat) : Int) := by
    unfold Builtin.Range.rangeSize
    simp only [show (2 : Int) > 0 by decide, if_true]
    split <;> omega
  refine ⟨by decide, by decide, ?_, z⟩
  unfold Builtin.Range.small
  rw [z]
  have fits : ∀ i : Int, 0 ≤ i → i ≤ 2000 → Builtin.Range.rangeFitsLong i = true := fun i h0 h1 => by
    unfold Builtin.Range.rangeFitsLong
    rw [decide_eq_true (show -(2 ^ 63) ≤ i by omega), decide_eq_true (show i < 2 ^ 63 by omega)]
    rfl
  rw [fits 0 (by omega) (by omega), fits (n : Int) (by omega) (by omega), fits 2 (by omega) (by omega), fits ((n / 2 : Nat) : Int) (by omega) (by omega), if_pos (show (2 : Int) > 0 by decide), fits ((n : Int) + (2 - 1)) (by omega) (by omega), Bool.or_true]
  rfl
theorem shr_nat (s k : Nat) : (s : Int) / 2 ^ k = ((s / 2 ^ k : Nat) : Int) := by
  rw [Int.natCast_ediv, Int.natCast_pow]
  rfl
theorem none_dec (s k : Nat) : (!decide ((s : Int) / 2 ^ k = 0)) = !decide (s < 2 ^ k) := by
  have hp : 0 < 2 ^ k := Nat.two_pow_pos k
  have e : ((s : Int) / 2 ^ k = 0) ↔ s < 2 ^ k := by
    rw [shr_nat]
    have q : s / 2 ^ k = 0 ↔ s < 2 ^ k := Nat.div_eq_zero_iff_lt hp
    omega
  rw [decide_eq_decide.mpr e]
theorem bit_dec (s p : Nat) : decide (((s / 2 ^ p % 2 : Nat) : Int) = 1) = s.testBit p := by
  rw [Nat.testBit_eq_decide_div_mod_eq]
  exact decide_eq_decide.mpr (by omega)
theorem dec_lt {a b : Nat} : decide ((a : Int) < (b : Int)) = decide (a < b) := decide_eq_decide.mpr (by omega)
theorem dec_le {a b : Nat} : decide ((a : Int) ≤ (b : Int)) = decide (a ≤ b) := decide_eq_decide.mpr (by omega)
theorem dec_eq {a b : Nat} : decide ((a : Int) = (b : Int)) = decide (a = b) := decide_eq_decide.mpr (by omega)
theorem ints_nats : ∀ {l : List Int}, (∀ x ∈ l, 0 ≤ x) → l.map V.int = vNs (l.map Int.toNat)
  | [], _ => rfl
  | x :: r, h => by
    have hx : (x.toNat : Int) = x := Int.toNat_of_nonneg (h x (List.mem_cons_self ..))
    show V.int x :: r.map V.int = V.int (x.toNat : Int) :: vNs (r.map Int.toNat)
    rw [hx, ints_nats fun y m => h y (List.mem_cons_of_mem _ m)]
theorem nats_ints (l : List Nat) : (l.map Int.ofNat).map V.int = vNs l := by
  unfold vNs
  rw [List.map_map]
  rfl
theorem within_ints {lo hi : Nat} {l : List Int} {m : Int} (h : (Codec.inLen lo hi l && l.all (Codec.inInt 0 m)) = true) : l.length ≤ hi ∧ ∀ x ∈ l, 0 ≤ x := by
  rw [Bool.and_eq_true] at h
  exact ⟨(Codec.inNat_iff.mp h.1).2, fun x m => (Codec.inInt_iff.mp (List.all_eq_true.mp h.2 x m)).1⟩
theorem put_same {H H' : Hp} {p : Addr} {o : HO} (s : Same H H') (n : H p = Option.none) : Same H (upd H' p o) := fun b u e => by
  have ne : b ≠ p := fun z => by rw [z, n] at e; cases e
  rw [upd_ne ne]
  exact s b u e
/-! ### a def of the text, as it stands behind the top -/
structure Def (K : PySem.W.Frag) (mg : Str → Option Value) (x : Str) (st : Stmt) (ps : List Str) (f : Addr) (fd : FuncData) : Prop where
  fn : Fun K x x st f fd
  gl : mg x = some (.ref f)
  bd : Binds K fd ps []
end Cab
namespace Cab
open PySem PySem.Spec PyProof.Rows L2
open PySem.W (Codec)
open Ks464 (two)
/-! ### the text by its places -/
def top (i : Nat) : Stmt := PySem.Challenge.pw_cabinets_s06_smallest.main.body.getD i (.Pass ⟨0, 0, 0, 0⟩)
abbrev sSeats : Stmt := top 12
abbrev sPairs : Stmt := top 13
abbrev sHouse : Stmt := top 14
abbrev sHR : Stmt := top 15
abbrev sIsOf : Stmt := top 16
abbrev sLikes : Stmt := top 17
abbrev sHates : Stmt := top 18
abbrev sWay : Stmt := top 19
abbrev sVotes : Stmt := top 20
abbrev sCab : Stmt := top 21
abbrev sAsks : Stmt := top 22
abbrev sStand : Stmt := top 23
abbrev sAll : Stmt := top 24
abbrev sTog : Stmt := top 25
abbrev sLeast : Stmt := top 26
abbrev sSmallest : Stmt := top 27
/-- what the top has written: the constants; the built-ins that stand as they were -/
structure Txt (K : PySem.W.Frag) (mg : Str → Option Value) : Prop where
  len : mg "len" = none
  range : mg "range" = none
  sum : mg "sum" = none
  min : mg "min" = none
  c_NOT_AS_TOLD : Cst mg "NOT_AS_TOLD" (-22)
  c_NONE_STANDS : Cst mg "NONE_STANDS" (-33)
  c_MOST_PARTIES : Cst mg "MOST_PARTIES" 6
  c_MOST_SEATS : Cst mg "MOST_SEATS" 200
  c_MOST_NUMBERS : Cst mg "MOST_NUMBERS" 40
  c_MORE_FOR_THAN_AGAINST : Cst mg "MORE_FOR_THAN_AGAINST" 0
  c_MORE_THAN_HALF_FOR : Cst mg "MORE_THAN_HALF_FOR" 1
  c_NOT_MORE_THAN_HALF_AGAINST : Cst mg "NOT_MORE_THAN_HALF_AGAINST" 2
  c_VOTES_FOR : Cst mg "VOTES_FOR" 0
  c_VOTES_AGAINST : Cst mg "VOTES_AGAINST" 1
  c_VOTES_NEITHER_WAY : Cst mg "VOTES_NEITHER_WAY" 2
/-! ### the defs: promises and bodies -/
section
variable {P : Program} {w : World} {K : PySem.W.Frag} {mg : Str → Option Value} {base : Heap}

def spSeats (K : PySem.W.Frag) : Sp := fun vs H Q _ => ∃ (a : Addr) (l : List Nat), vs = [.ref a] ∧ SqL K H a (vNs l) ∧ Q (.bl (seatsOk l)) H
theorem scSeats : FnScope ["seats", "held"] ["seats"] (defScope sSeats) := ⟨rfl, rfl, rfl, by decide +kernel, rfl, by decide +kernel, by decide +kernel⟩
theorem ok_seats {f : Addr} {fd : FuncData} (F : Fun K "seats_are_as_told" "seats_are_as_told" sSeats f fd) (T : Txt K mg) : FnOk P w K mg base CX0 1 f fd ["seats"] (spSeats K) := by
  refine F.ok scSeats (fun vs H Q E h => ?_) (fun cdv A outer s H vs Q E hr h => ?_)
  · obtain ⟨a, l, rfl, _⟩ := h
    rfl
  obtain ⟨a, l, rfl, hS, k⟩ := h
  refine ⟨_, pss_cons (ps_if (pt_cmpR op_gt (pe_callB call_len_seq rfl T.len PySem.boot_len (pa_cons (pv 0) pa_nil)) (pe_cst T.c_MOST_PARTIES) (nomark _)) (pss_one (ps_ret pe_bl)) pss_nil)
    (pss_cons (ps_for PassesOwn.never rfl (pi_list (pv 0)) (pg_name (i := 1) scSeats.nd rfl (Or.inl rfl))
      (pss_one (ps_if (PW.pt (pw_or (pt_cmpR op_lt (pv 1) pe_int (nomark _)) (pw_or1 (pt_cmpR op_gt (pv 1) (pe_cst T.c_MOST_SEATS) (nomark _))))) (pss_one (ps_ret pe_bl)) pss_nil)))
    (pss_one (ps_ret pe_bl))), ?_⟩
  refine ⟨_, rfl, a, _, rfl, .inl hS, _, _, rfl, rfl, _, rfl, ?_⟩
  refine ite2 (fun c => ?_) (fun c => ?_)
  · have c1 : (6 : Int) < ((vNs l).length : Int) := of_decide_eq_true c
    rw [vNs_len] at c1
    have e : seatsOk l = false := by
      unfold seatsOk
      rw [decide_eq_false (by omega)]
      rfl
    rw [e] at k
    exact k
  · have c1 : ¬ (6 : Int) < ((vNs l).length : Int) := fun z => c (decide_eq_true z)
    rw [vNs_len] at c1
    have c2 : l.length ≤ 6 := by omega
    have e : seatsOk l = l.all fun s => decide (1 ≤ s) && decide (s ≤ 200) := by
      unfold seatsOk
      rw [decide_eq_true c2]
      rfl
    rw [e] at k
    refine ⟨_, rfl, a, rfl, ⟨_, hS⟩, for_list (K := K) (a := a) (xs := vNs l) (fun i σ H' => ∃ v : Option V, σ = [some (.ref a), v] ∧ H' = H ∧ (l.take i).all (fun s => decide (1 ≤ s) && decide (s ≤ 200)) = true)
      ⟨none, rfl, rfl, rfl⟩ (fun i σ H' _ ⟨_, _, e, _⟩ => e ▸ hS) ?_ ?_⟩
    · rintro i y σ H' hi ⟨v, rfl, rfl, q⟩
      obtain ⟨n, hn, rfl⟩ := vNs_get hi
      have no : (decide (1 ≤ n) && decide (n ≤ 200)) = false → (tRet (tC (.bl false)) { nx := fun _ H' => Q .non H', rt := Q } [some (.ref a), some (.int (n : Int))] H') := fun z => by
        rw [all_not hn z] at k
        exact k
      refine ⟨_, rfl, _, _, rfl, rfl, _, rfl, ?_⟩
      refine ite2 (fun c => ?_) (fun c => ?_)
      · have c1 : (n : Int) < 1 := of_decide_eq_true c
        refine iteT (no ?_)
        rw [decide_eq_false (by omega)]
        rfl
      · have c1 : ¬ (n : Int) < 1 := fun z => c (decide_eq_true z)
        refine ⟨_, rfl, _, _, rfl, rfl, _, rfl, ?_⟩
        refine ite2 (fun c => ?_) (fun c => ?_)
        · have c2 : (200 : Int) < (n : Int) := of_decide_eq_true c
          refine no ?_
          rw [decide_eq_false (show ¬ n ≤ 200 by omega), Bool.and_false]
        · have c2 : ¬ (200 : Int) < (n : Int) := fun z => c (decide_eq_true z)
          refine ⟨_, rfl, rfl, all_more hn q ?_⟩
          rw [decide_eq_true (show 1 ≤ n by omega), decide_eq_true (show n ≤ 200 by omega)]
          rfl
    · rintro σ H' ⟨v, rfl, rfl, q⟩
      rw [vNs_len, List.take_length] at q
      rw [q] at k
      exact k

def spPairs (K : PySem.W.Frag) : Sp := fun vs H Q _ => ∃ (a : Addr) (l : List Nat) (n : Nat), vs = [.ref a, .int (n : Int)] ∧ SqL K H a (vNs l) ∧ l.length ≤ 44 ∧ Q (.bl (pairsOk l n)) H
theorem scPairs : FnScope ["pairs", "parties", "k"] ["pairs", "parties"] (defScope sPairs) := ⟨rfl, rfl, rfl, by decide +kernel, rfl, by decide +kernel, by decide +kernel⟩
theorem ok_pairs {f : Addr} {fd : FuncData} (F : Fun K "pairs_are_as_told" "pairs_are_as_told" sPairs f fd) (T : Txt K mg) : FnOk P w K mg base CX0 1 f fd ["pairs", "parties"] (spPairs K) := by
  refine F.ok scPairs (fun vs H Q E h => ?_) (fun cdv A outer s H vs Q E hr h => ?_)
  · obtain ⟨a, l, n, rfl, _⟩ := h
    rfl
  obtain ⟨a, l, n, rfl, hS, hlen, k⟩ := h
  refine ⟨_, pss_cons (ps_if (PW.pt (pw_or (pt_cmpR op_gt (pe_callB call_len_seq rfl T.len PySem.boot_len (pa_cons (pv 0) pa_nil)) (pe_cst T.c_MOST_NUMBERS) (nomark _))
        (pw_or1 (pt_cmp (pc_neI (pe_op op_mod (pe_callB call_len_seq rfl T.len PySem.boot_len (pa_cons (pv 0) pa_nil)) pe_int) pe_int))))) (pss_one (ps_ret pe_bl)) pss_nil)
    (pss_cons (ps_for PassesOwn.never rfl (pi_range3 rfl T.range (pa_cons pe_int (pa_cons (pe_callB call_len_seq rfl T.len PySem.boot_len (pa_cons (pv 0) pa_nil)) (pa_cons pe_int pa_nil)))) (pg_name (i := 2) scPairs.nd rfl (Or.inl rfl))
      (pss_cons (ps_if (PW.pt (pw_or (pt_cmpR op_ge (pe_ix ix_list (pv 0) (pv 2) (fun _ _ => rfl)) (pv 1) (nomark _)) (pw_or1 (pt_cmpR op_ge (pe_ix ix_list (pv 0) (pe_op op_add (pv 2) pe_int) (fun _ _ => rfl)) (pv 1) (nomark _))))) (pss_one (ps_ret pe_bl)) pss_nil)
      (pss_one (ps_if (pt_cmp (pc_eqI (pe_ix ix_list (pv 0) (pv 2) (fun _ _ => rfl)) (pe_ix ix_list (pv 0) (pe_op op_add (pv 2) pe_int) (fun _ _ => rfl)))) (pss_one (ps_ret pe_bl)) pss_nil))))
    (pss_one (ps_ret pe_bl))), ?_⟩
  refine ⟨_, rfl, a, _, rfl, .inl hS, _, _, rfl, rfl, _, rfl, ?_⟩
  refine ite2 (fun c => ?_) (fun c => ?_)
  · have c1 : (40 : Int) < ((vNs l).length : Int) := of_decide_eq_true c
    rw [vNs_len] at c1
    have e : pairsOk l n = false := by
      unfold pairsOk
      rw [decide_eq_false (show ¬ l.length ≤ 40 by omega)]
      rfl
    rw [e] at k
    exact iteT k
  · have c1 : ¬ (40 : Int) < ((vNs l).length : Int) := fun z => c (decide_eq_true z)
    rw [vNs_len] at c1
    refine ⟨_, rfl, a, _, rfl, .inl hS, _, _, rfl, rfl, (by show (0 : Int) < 2; decide), _, _, rfl, rfl, _, rfl, ?_⟩
    refine ite2 (fun c => ?_) (fun c => ?_)
    · have c2 : ¬ ((vNs l).length : Int) % 2 = 0 := by
        intro z
        have c' : (!decide (((vNs l).length : Int) % 2 = 0)) = true := c
        rw [decide_eq_true z] at c'
        cases c'
      rw [vNs_len] at c2
      have e : pairsOk l n = false := by
        unfold pairsOk
        rw [decide_eq_false (show ¬ l.length % 2 = 0 by omega), Bool.and_false]
        rfl
      rw [e] at k
      exact k
    · have c2 : ((vNs l).length : Int) % 2 = 0 := by
        cases e : decide (((vNs l).length : Int) % 2 = 0) with
        | true => exact of_decide_eq_true e
        | false =>
          have c' : ¬ (!decide (((vNs l).length : Int) % 2 = 0)) = true := c
          rw [e] at c'
          exact absurd rfl c'
      rw [vNs_len] at c2
      have e : pairsOk l n = (two l).all (pairOk n) := by
        unfold pairsOk
        rw [decide_eq_true (show l.length ≤ 40 by omega), decide_eq_true (show l.length % 2 = 0 by omega)]
        rfl
      rw [e] at k
      have rg : RgC 0 ((vNs l).length : Int) 2 (l.length / 2) := by
        rw [vNs_len]
        exact rg2 (by omega) (by omega)
      refine ⟨_, rfl, a, _, rfl, .inl hS, 0, _, 2, _, rfl, rg, for_rangeC (lo := 0) (c := 2) (n := l.length / 2) (fun i σ H' => ∃ v : Option V, σ = [some (.ref a), some (.int (n : Int)), v] ∧ H' = H ∧ ((two l).take i).all (pairOk n) = true)
        ⟨none, rfl, rfl, rfl⟩ ?_ ?_⟩
      · rintro i σ H' hi ⟨v, rfl, rfl, q⟩
        rw [← two_len] at hi
        obtain ⟨x, hx⟩ : ∃ x, (two l)[i]? = some x := ⟨_, List.getElem?_eq_getElem hi⟩
        obtain ⟨h1, h2⟩ := two_at hx
        have i1 : (0 : Int) + (i : Nat) * 2 = ((2 * i : Nat) : Int) := by omega
        have i2 : (0 : Int) + (i : Nat) * 2 + 1 = ((2 * i + 1 : Nat) : Int) := by omega
        have no : pairOk n x = false → (tRet (tC (.bl false)) { nx := fun _ H' => Q .non H', rt := Q } [some (.ref a), some (.int (n : Int)), some (.int ((0 : Int) + (i : Nat) * 2))] H') := fun z => by
          rw [all_not hx z] at k
          exact k
        refine ⟨_, rfl, _, rfl, a, _, _, _, rfl, rfl, hS, vNs_at h1 i1, _, rfl, _, _, rfl, rfl, _, rfl, ?_⟩
        refine ite2 (fun c => ?_) (fun c => ?_)
        · have d1 : (n : Int) ≤ (x.1 : Int) := of_decide_eq_true c
          refine iteT (no ?_)
          unfold pairOk
          rw [decide_eq_false (show ¬ x.1 < n by omega)]
          rfl
        · have d1 : ¬ (n : Int) ≤ (x.1 : Int) := fun z => c (decide_eq_true z)
          refine ⟨_, rfl, _, rfl, _, _, rfl, rfl, a, _, _, _, rfl, rfl, hS, vNs_at h2 i2, _, rfl, _, _, rfl, rfl, _, rfl, ?_⟩
          refine ite2 (fun c => ?_) (fun c => ?_)
          · have d2 : (n : Int) ≤ (x.2 : Int) := of_decide_eq_true c
            refine no ?_
            unfold pairOk
            rw [decide_eq_false (show ¬ x.2 < n by omega), Bool.and_false]
            rfl
          · have d2 : ¬ (n : Int) ≤ (x.2 : Int) := fun z => c (decide_eq_true z)
            refine ⟨_, rfl, _, rfl, a, _, _, _, rfl, rfl, hS, vNs_at h1 i1, _, rfl, _, rfl, _, _, rfl, rfl, a, _, _, _, rfl, rfl, hS, vNs_at h2 i2, _, _, rfl, rfl, _, rfl, ?_⟩
            refine ite2 (fun c => ?_) (fun c => ?_)
            · have d3 : (x.1 : Int) = (x.2 : Int) := of_decide_eq_true c
              refine no ?_
              unfold pairOk
              have e3 : (x.1 != x.2) = false := by
                have z : x.1 = x.2 := by omega
                rw [z]
                exact bne_self_eq_false _
              rw [e3, Bool.and_false]
            · have d3 : ¬ (x.1 : Int) = (x.2 : Int) := fun z => c (decide_eq_true z)
              refine ⟨_, rfl, rfl, all_more hx q ?_⟩
              unfold pairOk
              have e3 : (x.1 != x.2) = true := bne_iff_ne.mpr (by omega)
              rw [e3, decide_eq_true (show x.1 < n by omega), decide_eq_true (show x.2 < n by omega)]
              rfl
      · rintro σ H' ⟨v, rfl, rfl, q⟩
        rw [← two_len, List.take_length] at q
        rw [q] at k
        exact k

def spHouse (K : PySem.W.Frag) : Sp := fun vs H Q _ => ∃ (a b c : Addr) (s l m : List Nat), vs = [.ref a, .ref b, .ref c] ∧ SqL K H a (vNs s) ∧ SqL K H b (vNs l) ∧ SqL K H c (vNs m) ∧ l.length ≤ 44 ∧ m.length ≤ 44 ∧ Q (.bl (houseOk s l m)) H
theorem scHouse : FnScope ["seats", "likes", "hates"] ["seats", "likes", "hates"] (defScope sHouse) := ⟨rfl, rfl, rfl, by decide +kernel, rfl, by decide +kernel, by decide +kernel⟩
theorem ok_house {f f1 f2 : Addr} {fd fd1 fd2 : FuncData} (F : Fun K "house_is_as_told" "house_is_as_told" sHouse f fd) (T : Txt K mg) (D1 : Def K mg "seats_are_as_told" sSeats ["seats"] f1 fd1) (D2 : Def K mg "pairs_are_as_told" sPairs ["pairs", "parties"] f2 fd2) :
    FnOk P w K mg base CX0 2 f fd ["seats", "likes", "hates"] (spHouse K) := by
  have G1 : FnOk P w K mg base CX0 1 f1 fd1 ["seats"] (spSeats K) := ok_seats D1.fn T
  have G2 : FnOk P w K mg base CX0 1 f2 fd2 ["pairs", "parties"] (spPairs K) := ok_pairs D2.fn T
  refine F.ok scHouse (fun vs H Q E h => ?_) (fun cdv A outer s H vs Q E hr h => ?_)
  · obtain ⟨a, b, c, s, l, m, rfl, _⟩ := h
    rfl
  obtain ⟨a, b, c, s, l, m, rfl, hA, hB, hC, hl, hm, k⟩ := h
  refine ⟨_, pss_cons (ps_if (pt_not (pt_val (pe_call G1 hr rfl D1.gl D1.fn.kp D1.bd .nil pass0 (pa_cons (pv 0) pa_nil)))) (pss_one (ps_ret pe_bl)) pss_nil)
    (pss_one (ps_ret (pe_and (pe_call G2 hr rfl D2.gl D2.fn.kp D2.bd .nil pass0 (pa_cons (pv 1) (pa_cons (pe_callB call_len_seq rfl T.len PySem.boot_len (pa_cons (pv 0) pa_nil)) pa_nil)))
      (pe_one (pe_call G2 hr rfl D2.gl D2.fn.kp D2.bd .nil pass0 (pa_cons (pv 2) (pa_cons (pe_callB call_len_seq rfl T.len PySem.boot_len (pa_cons (pv 0) pa_nil)) pa_nil))))))), ?_⟩
  refine ⟨_, rfl, a, s, rfl, hA, _, rfl, ?_⟩
  cases e1 : seatsOk s with
  | false =>
    refine iteT ?_
    have e : houseOk s l m = false := by
      unfold houseOk
      rw [e1]
      rfl
    rw [e] at k
    exact k
  | true =>
    refine iteF ?_
    have e : houseOk s l m = (pairsOk l s.length && pairsOk m s.length) := by
      unfold houseOk
      rw [e1]
      rfl
    rw [e] at k
    refine ⟨_, rfl, _, rfl, a, _, rfl, .inl hA, b, l, s.length, by rw [vNs_len] <;> rfl, hB, hl, _, rfl, ?_⟩
    cases e2 : pairsOk l s.length with
    | false =>
      rw [e2] at k
      exact iteF k
    | true =>
      rw [e2] at k
      refine iteT ?_
      exact ⟨_, rfl, _, rfl, a, _, rfl, .inl hA, c, m, s.length, by rw [vNs_len] <;> rfl, hC, hm, k⟩

def spIsOf : Sp := fun vs H Q _ => ∃ (p s : Nat), vs = [.int (p : Int), .int (s : Int)] ∧ Q (.bl (s.testBit p)) H
theorem scIsOf : FnScope ["party", "s"] ["party", "s"] (defScope sIsOf) := ⟨rfl, rfl, rfl, by decide +kernel, rfl, by decide +kernel, by decide +kernel⟩
theorem ok_isof {f : Addr} {fd : FuncData} (F : Fun K "is_of" "is_of" sIsOf f fd) : FnOk P w K mg base CX0 1 f fd ["party", "s"] spIsOf := by
  refine F.ok scIsOf (fun vs H Q E h => ?_) (fun cdv A outer s H vs Q E hr h => ?_)
  · obtain ⟨p, s, rfl, _⟩ := h
    rfl
  obtain ⟨p, s, rfl, k⟩ := h
  refine ⟨_, pss_one (ps_ret (pe_cmp (pc_eqI (pe_op op_odd (pe_op op_shrN (pv 1) (pv 0)) pe_int) pe_int) rfl)), ?_⟩
  rw [← bit_dec] at k
  refine ⟨_, rfl, _, rfl, (s : Int), p, rfl, rfl, s / 2 ^ p, by rw [shr_nat], rfl, _, _, rfl, rfl, ?_⟩
  exact k

def spLikes (K : PySem.W.Frag) : Sp := fun vs H Q _ => ∃ (a : Addr) (i s : Nat) (l : List Nat), vs = [.int (i : Int), .int (s : Int), .ref a] ∧ SqL K H a (vNs l) ∧ l.length ≤ 44 ∧ l.length % 2 = 0 ∧ Q (.bl (likesOne i s (two l))) H
theorem scLikes : FnScope ["party", "s", "likes", "k"] ["party", "s", "likes"] (defScope sLikes) := ⟨rfl, rfl, rfl, by decide +kernel, rfl, by decide +kernel, by decide +kernel⟩
theorem ok_likes {f f1 : Addr} {fd fd1 : FuncData} (F : Fun K "likes_one_of" "likes_one_of" sLikes f fd) (T : Txt K mg) (D1 : Def K mg "is_of" sIsOf ["party", "s"] f1 fd1) : FnOk P w K mg base CX0 2 f fd ["party", "s", "likes"] (spLikes K) := by
  have G1 : FnOk P w K mg base CX0 1 f1 fd1 ["party", "s"] spIsOf := ok_isof D1.fn
  refine F.ok scLikes (fun vs H Q E h => ?_) (fun cdv A outer s H vs Q E hr h => ?_)
  · obtain ⟨a, i, s, l, rfl, _⟩ := h
    rfl
  obtain ⟨a, p, s, l, rfl, hS, hlen, hev, k⟩ := h
  refine ⟨_, pss_cons (ps_for PassesOwn.never rfl (pi_range3 rfl T.range (pa_cons pe_int (pa_cons (pe_callB call_len_seq rfl T.len PySem.boot_len (pa_cons (pv 2) pa_nil)) (pa_cons pe_int pa_nil)))) (pg_name (i := 3) scLikes.nd rfl (Or.inl rfl))
      (pss_one (ps_if (PW.pt (pw_and (pt_cmp (pc_eqI (pe_ix ix_list (pv 2) (pv 3) (fun _ _ => rfl)) (pv 0)))
        (pw_and1 (pt_val (pe_call G1 hr rfl D1.gl D1.fn.kp D1.bd .nil pass0 (pa_cons (pe_ix ix_list (pv 2) (pe_op op_add (pv 3) pe_int) (fun _ _ => rfl)) (pa_cons (pv 1) pa_nil))))))) (pss_one (ps_ret pe_bl)) pss_nil)))
    (pss_one (ps_ret pe_bl)), ?_⟩
  have rg : RgC 0 ((vNs l).length : Int) 2 (l.length / 2) := by
    rw [vNs_len]
    exact rg2 (by omega) (by omega)
  unfold likesOne at k
  refine ⟨_, rfl, a, _, rfl, .inl hS, 0, _, 2, _, rfl, rg, for_rangeC (lo := 0) (c := 2) (n := l.length / 2) (fun i σ H' => ∃ v : Option V, σ = [some (.int (p : Int)), some (.int (s : Int)), some (.ref a), v] ∧ H' = H ∧ ((two l).take i).any (fun x => x.1 == p && s.testBit x.2) = false)
    ⟨none, rfl, rfl, rfl⟩ ?_ ?_⟩
  · rintro i σ H' hi ⟨v, rfl, rfl, q⟩
    rw [← two_len] at hi
    obtain ⟨x, hx⟩ : ∃ x, (two l)[i]? = some x := ⟨_, List.getElem?_eq_getElem hi⟩
    obtain ⟨h1, h2⟩ := two_at hx
    have i1 : (0 : Int) + (i : Nat) * 2 = ((2 * i : Nat) : Int) := by omega
    have i2 : (0 : Int) + (i : Nat) * 2 + 1 = ((2 * i + 1 : Nat) : Int) := by omega
    refine ⟨_, rfl, _, rfl, a, _, _, _, rfl, rfl, hS, vNs_at h1 i1, _, rfl, _, _, rfl, rfl, _, rfl, ?_⟩
    refine ite2 (fun c => ?_) (fun c => ?_)
    · have d1 : (x.1 : Int) = (p : Int) := of_decide_eq_true c
      have d2 : (x.1 == p) = true := beq_iff_eq.mpr (by omega)
      refine ⟨_, rfl, _, rfl, _, _, rfl, rfl, a, _, _, _, rfl, rfl, hS, vNs_at h2 i2, _, rfl, x.2, s, rfl, _, rfl, ?_⟩
      cases e : s.testBit x.2 with
      | true =>
        refine iteT ?_
        rw [any_yes hx (by rw [d2, e]; rfl)] at k
        exact k
      | false =>
        refine iteF ?_
        exact ⟨_, rfl, rfl, any_more hx q (by rw [e, Bool.and_false])⟩
    · have d1 : ¬ (x.1 : Int) = (p : Int) := fun z => c (decide_eq_true z)
      have d2 : (x.1 == p) = false := beq_eq_false_iff_ne.mpr (by omega)
      refine iteF ?_
      exact ⟨_, rfl, rfl, any_more hx q (by rw [d2, Bool.false_and])⟩
  · rintro σ H' ⟨v, rfl, rfl, q⟩
    rw [← two_len, List.take_length] at q
    rw [q] at k
    exact k

def spHates (K : PySem.W.Frag) : Sp := fun vs H Q _ => ∃ (a : Addr) (i s : Nat) (l : List Nat), vs = [.int (i : Int), .int (s : Int), .ref a] ∧ SqL K H a (vNs l) ∧ l.length ≤ 44 ∧ l.length % 2 = 0 ∧ Q (.bl (hatesOne i s (two l))) H
theorem scHates : FnScope ["party", "s", "hates", "k"] ["party", "s", "hates"] (defScope sHates) := ⟨rfl, rfl, rfl, by decide +kernel, rfl, by decide +kernel, by decide +kernel⟩
theorem ok_hates {f f1 : Addr} {fd fd1 : FuncData} (F : Fun K "hates_one_of" "hates_one_of" sHates f fd) (T : Txt K mg) (D1 : Def K mg "is_of" sIsOf ["party", "s"] f1 fd1) : FnOk P w K mg base CX0 2 f fd ["party", "s", "hates"] (spHates K) := by
  have G1 : FnOk P w K mg base CX0 1 f1 fd1 ["party", "s"] spIsOf := ok_isof D1.fn
  refine F.ok scHates (fun vs H Q E h => ?_) (fun cdv A outer s H vs Q E hr h => ?_)
  · obtain ⟨a, i, s, l, rfl, _⟩ := h
    rfl
  obtain ⟨a, p, s, l, rfl, hS, hlen, hev, k⟩ := h
  refine ⟨_, pss_cons (ps_for PassesOwn.never rfl (pi_range3 rfl T.range (pa_cons pe_int (pa_cons (pe_callB call_len_seq rfl T.len PySem.boot_len (pa_cons (pv 2) pa_nil)) (pa_cons pe_int pa_nil)))) (pg_name (i := 3) scHates.nd rfl (Or.inl rfl))
      (pss_cons (ps_if (PW.pt (pw_and (pt_cmp (pc_eqI (pe_ix ix_list (pv 2) (pv 3) (fun _ _ => rfl)) (pv 0)))
        (pw_and1 (pt_val (pe_call G1 hr rfl D1.gl D1.fn.kp D1.bd .nil pass0 (pa_cons (pe_ix ix_list (pv 2) (pe_op op_add (pv 3) pe_int) (fun _ _ => rfl)) (pa_cons (pv 1) pa_nil))))))) (pss_one (ps_ret pe_bl)) pss_nil)
      (pss_one (ps_if (PW.pt (pw_and (pt_cmp (pc_eqI (pe_ix ix_list (pv 2) (pe_op op_add (pv 3) pe_int) (fun _ _ => rfl)) (pv 0)))
        (pw_and1 (pt_val (pe_call G1 hr rfl D1.gl D1.fn.kp D1.bd .nil pass0 (pa_cons (pe_ix ix_list (pv 2) (pv 3) (fun _ _ => rfl)) (pa_cons (pv 1) pa_nil))))))) (pss_one (ps_ret pe_bl)) pss_nil))))
    (pss_one (ps_ret pe_bl)), ?_⟩
  have rg : RgC 0 ((vNs l).length : Int) 2 (l.length / 2) := by
    rw [vNs_len]
    exact rg2 (by omega) (by omega)
  unfold hatesOne at k
  refine ⟨_, rfl, a, _, rfl, .inl hS, 0, _, 2, _, rfl, rg, for_rangeC (lo := 0) (c := 2) (n := l.length / 2) (fun i σ H' => ∃ v : Option V, σ = [some (.int (p : Int)), some (.int (s : Int)), some (.ref a), v] ∧ H' = H ∧ ((two l).take i).any (fun x => (x.1 == p && s.testBit x.2) || (x.2 == p && s.testBit x.1)) = false)
    ⟨none, rfl, rfl, rfl⟩ ?_ ?_⟩
  · rintro i σ H' hi ⟨v, rfl, rfl, q⟩
    rw [← two_len] at hi
    obtain ⟨x, hx⟩ : ∃ x, (two l)[i]? = some x := ⟨_, List.getElem?_eq_getElem hi⟩
    obtain ⟨h1, h2⟩ := two_at hx
    have i1 : (0 : Int) + (i : Nat) * 2 = ((2 * i : Nat) : Int) := by omega
    have i2 : (0 : Int) + (i : Nat) * 2 + 1 = ((2 * i + 1 : Nat) : Int) := by omega
    refine ⟨_, rfl, _, rfl, a, _, _, _, rfl, rfl, hS, vNs_at h1 i1, _, rfl, _, _, rfl, rfl, _, rfl, ?_⟩
    refine ite2 (fun c => ?_) (fun c => ?_)
    · have d1 : (x.1 : Int) = (p : Int) := of_decide_eq_true c
      have d2 : (x.1 == p) = true := beq_iff_eq.mpr (by omega)
      refine ⟨_, rfl, _, rfl, _, _, rfl, rfl, a, _, _, _, rfl, rfl, hS, vNs_at h2 i2, _, rfl, x.2, s, rfl, _, rfl, ?_⟩
      cases e : s.testBit x.2 with
      | true =>
        refine iteT ?_
        rw [any_yes hx (by rw [d2, e]; rfl)] at k
        exact k
      | false =>
        have z : (x.1 == p && s.testBit x.2) = false := by rw [e, Bool.and_false]
        refine iteF ?_
        refine ⟨_, rfl, _, rfl, _, _, rfl, rfl, a, _, _, _, rfl, rfl, hS, vNs_at h2 i2, _, rfl, _, _, rfl, rfl, _, rfl, ?_⟩
        refine ite2 (fun c => ?_) (fun c => ?_)
        · have d3 : (x.2 : Int) = (p : Int) := of_decide_eq_true c
          have d4 : (x.2 == p) = true := beq_iff_eq.mpr (by omega)
          refine ⟨_, rfl, _, rfl, a, _, _, _, rfl, rfl, hS, vNs_at h1 i1, _, rfl, x.1, s, rfl, _, rfl, ?_⟩
          cases e2 : s.testBit x.1 with
          | true =>
            refine iteT ?_
            rw [any_yes hx (by rw [d4, e2]; exact Bool.or_true _)] at k
            exact k
          | false =>
            refine iteF ?_
            exact ⟨_, rfl, rfl, any_more hx q (by rw [z, e2, Bool.and_false]; rfl)⟩
        · have d3 : ¬ (x.2 : Int) = (p : Int) := fun z => c (decide_eq_true z)
          have d4 : (x.2 == p) = false := beq_eq_false_iff_ne.mpr (by omega)
          refine iteF ?_
          exact ⟨_, rfl, rfl, any_more hx q (by rw [z, d4, Bool.false_and]; rfl)⟩
    · have d1 : ¬ (x.1 : Int) = (p : Int) := fun z => c (decide_eq_true z)
      have d2 : (x.1 == p) = false := beq_eq_false_iff_ne.mpr (by omega)
      have z : (x.1 == p && s.testBit x.2) = false := by rw [d2, Bool.false_and]
      refine iteF ?_
      refine ⟨_, rfl, _, rfl, _, _, rfl, rfl, a, _, _, _, rfl, rfl, hS, vNs_at h2 i2, _, rfl, _, _, rfl, rfl, _, rfl, ?_⟩
      refine ite2 (fun c => ?_) (fun c => ?_)
      · have d3 : (x.2 : Int) = (p : Int) := of_decide_eq_true c
        have d4 : (x.2 == p) = true := beq_iff_eq.mpr (by omega)
        refine ⟨_, rfl, _, rfl, a, _, _, _, rfl, rfl, hS, vNs_at h1 i1, _, rfl, x.1, s, rfl, _, rfl, ?_⟩
        cases e2 : s.testBit x.1 with
        | true =>
          refine iteT ?_
          rw [any_yes hx (by rw [d4, e2]; exact Bool.or_true _)] at k
          exact k
        | false =>
          refine iteF ?_
          exact ⟨_, rfl, rfl, any_more hx q (by rw [z, e2, Bool.and_false]; rfl)⟩
      · have d3 : ¬ (x.2 : Int) = (p : Int) := fun z => c (decide_eq_true z)
        have d4 : (x.2 == p) = false := beq_eq_false_iff_ne.mpr (by omega)
        refine iteF ?_
        exact ⟨_, rfl, rfl, any_more hx q (by rw [z, d4, Bool.false_and]; rfl)⟩
  · rintro σ H' ⟨v, rfl, rfl, q⟩
    rw [← two_len, List.take_length] at q
    rw [q] at k
    exact k

def spWay (K : PySem.W.Frag) : Sp := fun vs H Q _ => ∃ (b c : Addr) (i s : Nat) (l m : List Nat), vs = [.int (i : Int), .int (s : Int), .ref b, .ref c] ∧ SqL K H b (vNs l) ∧ SqL K H c (vNs m) ∧ l.length ≤ 44 ∧ l.length % 2 = 0 ∧ m.length ≤ 44 ∧ m.length % 2 = 0 ∧ Q (.int ((wayOf i s (two l) (two m) : Nat) : Int)) H
theorem scWay : FnScope ["party", "s", "likes", "hates"] ["party", "s", "likes", "hates"] (defScope sWay) := ⟨rfl, rfl, rfl, by decide +kernel, rfl, by decide +kernel, by decide +kernel⟩
theorem ok_way {f f1 f2 f3 : Addr} {fd fd1 fd2 fd3 : FuncData} (F : Fun K "way_of" "way_of" sWay f fd) (T : Txt K mg) (D1 : Def K mg "is_of" sIsOf ["party", "s"] f1 fd1) (D2 : Def K mg "likes_one_of" sLikes ["party", "s", "likes"] f2 fd2) (D3 : Def K mg "hates_one_of" sHates ["party", "s", "hates"] f3 fd3) :
    FnOk P w K mg base CX0 3 f fd ["party", "s", "likes", "hates"] (spWay K) := by
  have G1 : FnOk P w K mg base CX0 1 f1 fd1 ["party", "s"] spIsOf := ok_isof D1.fn
  have G2 : FnOk P w K mg base CX0 2 f2 fd2 ["party", "s", "likes"] (spLikes K) := ok_likes D2.fn T D1
  have G3 : FnOk P w K mg base CX0 2 f3 fd3 ["party", "s", "hates"] (spHates K) := ok_hates D3.fn T D1
  refine F.ok scWay (fun vs H Q E h => ?_) (fun cdv A outer s H vs Q E hr h => ?_)
  · obtain ⟨b, c, i, s, l, m, rfl, _⟩ := h
    rfl
  obtain ⟨b, c, i, s, l, m, rfl, hB, hC, hl, hle, hm, hme, k⟩ := h
  have hr1 : Room 1 _ := hr.mono (by decide)
  refine ⟨_, pss_cons (ps_if (pt_val (pe_call G1 hr1 rfl D1.gl D1.fn.kp D1.bd .nil pass0 (pa_cons (pv 0) (pa_cons (pv 1) pa_nil)))) (pss_one (ps_ret (pe_cst T.c_VOTES_FOR))) pss_nil)
    (pss_cons (ps_if (pt_val (pe_call G3 hr rfl D3.gl D3.fn.kp D3.bd .nil pass0 (pa_cons (pv 0) (pa_cons (pv 1) (pa_cons (pv 3) pa_nil))))) (pss_one (ps_ret (pe_cst T.c_VOTES_AGAINST))) pss_nil)
    (pss_cons (ps_if (pt_val (pe_call G2 hr rfl D2.gl D2.fn.kp D2.bd .nil pass0 (pa_cons (pv 0) (pa_cons (pv 1) (pa_cons (pv 2) pa_nil))))) (pss_one (ps_ret (pe_cst T.c_VOTES_FOR))) pss_nil)
    (pss_one (ps_ret (pe_cst T.c_VOTES_NEITHER_WAY))))), ?_⟩
  unfold wayOf at k
  refine ⟨_, rfl, _, rfl, i, s, rfl, _, rfl, ?_⟩
  cases e1 : s.testBit i with
  | true =>
    rw [e1, if_pos rfl] at k
    exact iteT k
  | false =>
    rw [e1, if_neg Bool.false_ne_true] at k
    refine iteF ?_
    refine ⟨_, rfl, _, rfl, _, rfl, c, i, s, m, rfl, hC, hm, hme, _, rfl, ?_⟩
    cases e2 : hatesOne i s (two m) with
    | true =>
      rw [e2, if_pos rfl] at k
      exact iteT k
    | false =>
      rw [e2, if_neg Bool.false_ne_true] at k
      refine iteF ?_
      refine ⟨_, rfl, _, rfl, _, rfl, b, i, s, l, rfl, hB, hl, hle, _, rfl, ?_⟩
      cases e3 : likesOne i s (two l) with
      | true =>
        rw [e3, if_pos rfl] at k
        exact iteT k
      | false =>
        rw [e3, if_neg Bool.false_ne_true] at k
        exact iteF k

def spVotes (K : PySem.W.Frag) : Sp := fun vs H Q _ => ∃ (a b c : Addr) (s : Nat) (g l m : List Nat), vs = [.int (s : Int), .ref a, .ref b, .ref c] ∧ SqL K H a (vNs g) ∧ SqL K H b (vNs l) ∧ SqL K H c (vNs m) ∧ g.length ≤ 10 ∧ l.length ≤ 44 ∧ l.length % 2 = 0 ∧ m.length ≤ 44 ∧ m.length % 2 = 0 ∧
  ∀ (H' : Hp) (p : Addr), Same H H' → H p = none → H' p = some (.lst (vNs (votes g s (two l) (two m) g.length))) → Q (.ref p) H'
theorem scVotes : FnScope ["s", "seats", "likes", "hates", "votes", "party", "way"] ["s", "seats", "likes", "hates"] (defScope sVotes) := ⟨rfl, rfl, rfl, by decide +kernel, rfl, by decide +kernel, by decide +kernel⟩
theorem ok_votes {f f1 f2 f3 f4 : Addr} {fd fd1 fd2 fd3 fd4 : FuncData} (F : Fun K "votes_on" "votes_on" sVotes f fd) (T : Txt K mg) (D1 : Def K mg "is_of" sIsOf ["party", "s"] f1 fd1) (D2 : Def K mg "likes_one_of" sLikes ["party", "s", "likes"] f2 fd2) (D3 : Def K mg "hates_one_of" sHates ["party", "s", "hates"] f3 fd3)
    (D4 : Def K mg "way_of" sWay ["party", "s", "likes", "hates"] f4 fd4) : FnOk P w K mg base CX0 4 f fd ["s", "seats", "likes", "hates"] (spVotes K) := by
  have G4 : FnOk P w K mg base CX0 3 f4 fd4 ["party", "s", "likes", "hates"] (spWay K) := ok_way D4.fn T D1 D2 D3
  refine F.ok scVotes (fun vs H Q E h => ?_) (fun cdv A outer s H vs Q E hr h => ?_)
  · obtain ⟨a, b, c, s, g, l, m, rfl, _⟩ := h
    rfl
  obtain ⟨a, b, c, s, g, l, m, rfl, hA, hB, hC, hg, hl, hle, hm, hme, k⟩ := h
  refine ⟨_, pss_cons (ps_set (i := 4) scVotes.nd rfl (Or.inl rfl) (pe_lst (pa_cons pe_int (pa_cons pe_int (pa_cons pe_int pa_nil)))))
    (pss_cons (ps_for PassesOwn.never rfl (pi_range1 rfl T.range (pa_cons (pe_callB call_len_seq rfl T.len PySem.boot_len (pa_cons (pv 1) pa_nil)) pa_nil)) (pg_name (i := 5) scVotes.nd rfl (Or.inl rfl))
      (pss_cons (ps_set (i := 6) scVotes.nd rfl (Or.inl rfl) (pe_call G4 hr rfl D4.gl D4.fn.kp D4.bd .nil pass0 (pa_cons (pv 5) (pa_cons (pv 0) (pa_cons (pv 2) (pa_cons (pv 3) pa_nil))))))
      (pss_one (ps_asg (pe_op op_add (pe_ix ix_list (pv 4) (pv 6) (fun _ _ => rfl)) (pe_ix ix_list (pv 1) (pv 5) (fun _ _ => rfl))) (pg_sub (pv 4) (pv 6) set_list)))))
    (pss_one (ps_ret (pv 4)))), ?_⟩
  refine ⟨(by show 3 ≤ sizeLine; decide), fun p hp => ?_⟩
  have s0 : Same H (upd H p (.lst [.int 0, .int 0, .int 0])) := put_same (Same.refl H) hp
  refine ⟨_, rfl, a, _, rfl, .inl (s0.seq hA), _, rfl, by rw [vNs_len]; omega, by rw [vNs_len]; omega, for_range (lo := 0) (n := (((vNs g).length : Nat) : Int).toNat) (fun i σ H' => ∃ v u : Option V, σ = [some (.int (s : Int)), some (.ref a), some (.ref b), some (.ref c), some (.ref p), v, u] ∧ Same H H' ∧ H' p = some (.lst (vNs (votes g s (two l) (two m) i))))
    ⟨none, none, rfl, s0, upd_same⟩ ?_ ?_⟩
  · rintro i σ H' hi ⟨v, u, rfl, s1, hv⟩
    rw [Int.toNat_natCast, vNs_len] at hi
    obtain ⟨x, hx⟩ : ∃ x, g[i]? = some x := ⟨_, List.getElem?_eq_getElem hi⟩
    have i0 : (0 : Int) + (i : Nat) = (i : Int) := by omega
    have wl := way_lt i s (two l) (two m)
    have gv := votes_get g s (two l) (two m) i wl
    refine ⟨_, rfl, _, rfl, _, rfl, _, rfl, b, c, i, s, l, m, by rw [i0] <;> rfl, s1.seq hB, s1.seq hC, hl, hle, hm, hme, ?_⟩
    refine ⟨_, rfl, _, rfl, p, _, _, _, rfl, rfl, SqL.of hv, vNs_at gv rfl, _, rfl, _, rfl, a, _, _, _, rfl, rfl, s1.seq hA, vNs_at hx i0, _, _, rfl, rfl, ?_⟩
    refine ⟨_, rfl, _, rfl, p, _, _, wayOf i s (two l) (two m), rfl, rfl, hv, by rw [vNs_len, votes_len]; exact ixN_nat wl, ?_⟩
    refine ⟨_, _, rfl, put_same s1 hp, ?_⟩
    rw [votes_more hx, ← vNs_set, Int.natCast_add]
    exact upd_same
  · rintro σ H' ⟨v, u, rfl, s1, hv⟩
    rw [Int.toNat_natCast, vNs_len] at hv
    exact ⟨_, rfl, k H' p s1 hp hv⟩

def spHR (K : PySem.W.Frag) : Sp := fun vs H Q _ => ∃ (a b c : Addr) (r : Nat) (s l m : List Nat), vs = [.int (r : Int), .ref a, .ref b, .ref c] ∧ SqL K H a (vNs s) ∧ SqL K H b (vNs l) ∧ SqL K H c (vNs m) ∧ l.length ≤ 44 ∧ m.length ≤ 44 ∧ Q (.bl (houseOk s l m && decide (r ≤ 2))) H
theorem scHR : FnScope ["r", "seats", "likes", "hates"] ["r", "seats", "likes", "hates"] (defScope sHR) := ⟨rfl, rfl, rfl, by decide +kernel, rfl, by decide +kernel, by decide +kernel⟩
theorem ok_hr {f f1 f2 f3 : Addr} {fd fd1 fd2 fd3 : FuncData} (F : Fun K "house_and_rule_are_as_told" "house_and_rule_are_as_told" sHR f fd) (T : Txt K mg) (D1 : Def K mg "seats_are_as_told" sSeats ["seats"] f1 fd1) (D2 : Def K mg "pairs_are_as_told" sPairs ["pairs", "parties"] f2 fd2) (D3 : Def K mg "house_is_as_told" sHouse ["seats", "likes", "hates"] f3 fd3) :
    FnOk P w K mg base CX0 3 f fd ["r", "seats", "likes", "hates"] (spHR K) := by
  have G3 : FnOk P w K mg base CX0 2 f3 fd3 ["seats", "likes", "hates"] (spHouse K) := ok_house D3.fn T D1 D2
  refine F.ok scHR (fun vs H Q E h => ?_) (fun cdv A outer s H vs Q E hr h => ?_)
  · obtain ⟨a, b, c, r, s, l, m, rfl, _⟩ := h
    rfl
  obtain ⟨a, b, c, r, s, l, m, rfl, hA, hB, hC, hl, hm, k⟩ := h
  refine ⟨_, pss_one (ps_ret (pe_and (pe_call G3 hr rfl D3.gl D3.fn.kp D3.bd .nil pass0 (pa_cons (pv 1) (pa_cons (pv 2) (pa_cons (pv 3) pa_nil)))) (pe_one (pe_cmp (pc_le (pv 0) (pe_cst T.c_NOT_MORE_THAN_HALF_AGAINST)) rfl)))), ?_⟩
  refine ⟨_, rfl, _, rfl, _, rfl, a, b, c, s, l, m, rfl, hA, hB, hC, hl, hm, _, rfl, ?_⟩
  cases e1 : houseOk s l m with
  | false =>
    rw [e1] at k
    exact iteF k
  | true =>
    rw [e1, Bool.true_and, ← dec_le] at k
    refine iteT ?_
    exact ⟨_, rfl, _, _, rfl, rfl, k⟩

def spCab (K : PySem.W.Frag) : Sp := fun vs H Q _ => ∃ (a : Addr) (s : Nat) (l : List Nat), vs = [.int (s : Int), .ref a] ∧ SqL K H a (vNs l) ∧ l.length ≤ 44 ∧ l.length % 2 = 0 ∧ Q (.bl (cabinet s (two l))) H
theorem scCab : FnScope ["s", "hates", "k"] ["s", "hates"] (defScope sCab) := ⟨rfl, rfl, rfl, by decide +kernel, rfl, by decide +kernel, by decide +kernel⟩
theorem ok_cab {f f1 : Addr} {fd fd1 : FuncData} (F : Fun K "is_cabinet" "is_cabinet" sCab f fd) (T : Txt K mg) (D1 : Def K mg "is_of" sIsOf ["party", "s"] f1 fd1) : FnOk P w K mg base CX0 2 f fd ["s", "hates"] (spCab K) := by
  have G1 : FnOk P w K mg base CX0 1 f1 fd1 ["party", "s"] spIsOf := ok_isof D1.fn
  refine F.ok scCab (fun vs H Q E h => ?_) (fun cdv A outer s H vs Q E hr h => ?_)
  · obtain ⟨a, s, l, rfl, _⟩ := h
    rfl
  obtain ⟨a, s, l, rfl, hS, hlen, hev, k⟩ := h
  refine ⟨_, pss_cons (ps_if (pt_cmp (pc_eqI (pv 0) pe_int)) (pss_one (ps_ret pe_bl)) pss_nil)
    (pss_cons (ps_for PassesOwn.never rfl (pi_range3 rfl T.range (pa_cons pe_int (pa_cons (pe_callB call_len_seq rfl T.len PySem.boot_len (pa_cons (pv 1) pa_nil)) (pa_cons pe_int pa_nil)))) (pg_name (i := 2) scCab.nd rfl (Or.inl rfl))
      (pss_one (ps_if (PW.pt (pw_and (pt_val (pe_call G1 hr rfl D1.gl D1.fn.kp D1.bd .nil pass0 (pa_cons (pe_ix ix_list (pv 1) (pv 2) (fun _ _ => rfl)) (pa_cons (pv 0) pa_nil))))
        (pw_and1 (pt_val (pe_call G1 hr rfl D1.gl D1.fn.kp D1.bd .nil pass0 (pa_cons (pe_ix ix_list (pv 1) (pe_op op_add (pv 2) pe_int) (fun _ _ => rfl)) (pa_cons (pv 0) pa_nil))))))) (pss_one (ps_ret pe_bl)) pss_nil)))
    (pss_one (ps_ret pe_bl))), ?_⟩
  unfold cabinet at k
  refine ⟨_, rfl, _, _, rfl, rfl, _, rfl, ?_⟩
  refine ite2 (fun c => ?_) (fun c => ?_)
  · have c1 : (s : Int) = 0 := of_decide_eq_true c
    have e : (s != 0) = false := by
      have z : s = 0 := by omega
      rw [z]
      rfl
    rw [e] at k
    exact k
  · have c1 : ¬ (s : Int) = 0 := fun z => c (decide_eq_true z)
    have e : (s != 0) = true := bne_iff_ne.mpr (by omega)
    rw [e] at k
    have rg : RgC 0 ((vNs l).length : Int) 2 (l.length / 2) := by
      rw [vNs_len]
      exact rg2 (by omega) (by omega)
    refine ⟨_, rfl, a, _, rfl, .inl hS, 0, _, 2, _, rfl, rg, for_rangeC (lo := 0) (c := 2) (n := l.length / 2) (fun i σ H' => ∃ v : Option V, σ = [some (.int (s : Int)), some (.ref a), v] ∧ H' = H ∧ ((two l).take i).all (fun x => !(s.testBit x.1 && s.testBit x.2)) = true)
      ⟨none, rfl, rfl, rfl⟩ ?_ ?_⟩
    · rintro i σ H' hi ⟨v, rfl, rfl, q⟩
      rw [← two_len] at hi
      obtain ⟨x, hx⟩ : ∃ x, (two l)[i]? = some x := ⟨_, List.getElem?_eq_getElem hi⟩
      obtain ⟨h1, h2⟩ := two_at hx
      have i1 : (0 : Int) + (i : Nat) * 2 = ((2 * i : Nat) : Int) := by omega
      have i2 : (0 : Int) + (i : Nat) * 2 + 1 = ((2 * i + 1 : Nat) : Int) := by omega
      refine ⟨_, rfl, _, rfl, a, _, _, _, rfl, rfl, hS, vNs_at h1 i1, _, rfl, x.1, s, rfl, _, rfl, ?_⟩
      cases e1 : s.testBit x.1 with
      | false =>
        refine iteF ?_
        refine iteF ?_
        exact ⟨_, rfl, rfl, all_more hx q (by rw [e1]; rfl)⟩
      | true =>
        refine iteT ?_
        refine ⟨_, rfl, _, rfl, _, _, rfl, rfl, a, _, _, _, rfl, rfl, hS, vNs_at h2 i2, _, rfl, x.2, s, rfl, _, rfl, ?_⟩
        cases e2 : s.testBit x.2 with
        | false =>
          refine iteF ?_
          exact ⟨_, rfl, rfl, all_more hx q (by rw [e1, e2]; rfl)⟩
        | true =>
          refine iteT ?_
          rw [all_not hx (by rw [e1, e2]; rfl)] at k
          exact k
    · rintro σ H' ⟨v, rfl, rfl, q⟩
      rw [← two_len, List.take_length] at q
      rw [q] at k
      exact k

def spAsks (K : PySem.W.Frag) : Sp := fun vs H Q _ => ∃ (a : Addr) (r x y z : Nat), vs = [.int (r : Int), .ref a] ∧ SqL K H a (vNs [x, y, z]) ∧ Q (.bl (rulePass r x y z)) H
theorem scAsks : FnScope ["r", "votes"] ["r", "votes"] (defScope sAsks) := ⟨rfl, rfl, rfl, by decide +kernel, rfl, by decide +kernel, by decide +kernel⟩
theorem ok_asks {f : Addr} {fd : FuncData} (F : Fun K "has_what_rule_asks" "has_what_rule_asks" sAsks f fd) (T : Txt K mg) : FnOk P w K mg base CX0 1 f fd ["r", "votes"] (spAsks K) := by
  refine F.ok scAsks (fun vs H Q E h => ?_) (fun cdv A outer s H vs Q E hr h => ?_)
  · obtain ⟨a, r, x, y, z, rfl, _⟩ := h
    rfl
  obtain ⟨a, r, x, y, z, rfl, hS, k⟩ := h
  refine ⟨_, pss_cons (ps_if (pt_cmp (pc_eqI (pv 0) (pe_cst T.c_MORE_FOR_THAN_AGAINST))) (pss_one (ps_ret (pe_cmp (pc_gt (pe_ix ix_list (pv 1) (pe_cst T.c_VOTES_FOR) (fun _ _ => rfl)) (pe_ix ix_list (pv 1) (pe_cst T.c_VOTES_AGAINST) (fun _ _ => rfl))) rfl))) pss_nil)
    (pss_cons (ps_if (pt_cmp (pc_eqI (pv 0) (pe_cst T.c_MORE_THAN_HALF_FOR))) (pss_one (ps_ret (pe_cmp (pc_gt (pe_op op_mul pe_int (pe_ix ix_list (pv 1) (pe_cst T.c_VOTES_FOR) (fun _ _ => rfl))) (pe_callB (cr_sum rfl) rfl T.sum boot_sum (pa_cons (pv 1) pa_nil))) rfl))) pss_nil)
    (pss_one (ps_ret (pe_cmp (pc_le (pe_op op_mul pe_int (pe_ix ix_list (pv 1) (pe_cst T.c_VOTES_AGAINST) (fun _ _ => rfl))) (pe_callB (cr_sum rfl) rfl T.sum boot_sum (pa_cons (pv 1) pa_nil))) rfl)))), ?_⟩
  have sm : ([(x : Int), (y : Int), (z : Int)] : List Int).sum = ((x + y + z : Nat) : Int) := by
    simp only [List.sum_cons, List.sum_nil]
    omega
  have a0 : atI (vNs [x, y, z]) 0 = some (V.int (x : Int)) := vNs_at (j := 0) rfl rfl
  have a1 : atI (vNs [x, y, z]) 1 = some (V.int (y : Int)) := vNs_at (j := 1) rfl rfl
  unfold rulePass at k
  refine ⟨_, rfl, _, _, rfl, rfl, _, rfl, ?_⟩
  refine ite2 (fun c => ?_) (fun c => ?_)
  · have c1 : (r : Int) = 0 := of_decide_eq_true c
    rw [if_pos (show r = 0 by omega), ← dec_lt] at k
    exact ⟨_, rfl, a, _, _, _, rfl, rfl, hS, a0, _, rfl, a, _, _, _, rfl, rfl, hS, a1, _, _, rfl, rfl, k⟩
  · have c1 : ¬ (r : Int) = 0 := fun q => c (decide_eq_true q)
    rw [if_neg (show ¬ r = 0 by omega)] at k
    refine ⟨_, rfl, _, _, rfl, rfl, _, rfl, ?_⟩
    refine ite2 (fun c => ?_) (fun c => ?_)
    · have c2 : (r : Int) = 1 := of_decide_eq_true c
      rw [if_pos (show r = 1 by omega), ← dec_lt, ← sm, Int.natCast_mul] at k
      exact ⟨_, rfl, a, _, _, _, rfl, rfl, hS, a0, _, _, rfl, rfl, .inl ⟨by decide, by decide⟩, _, rfl, a, [(x : Int), (y : Int), (z : Int)], rfl, hS, _, _, rfl, rfl, k⟩
    · have c2 : ¬ (r : Int) = 1 := fun q => c (decide_eq_true q)
      rw [if_neg (show ¬ r = 1 by omega), ← dec_le, ← sm, Int.natCast_mul] at k
      exact ⟨_, rfl, a, _, _, _, rfl, rfl, hS, a1, _, _, rfl, rfl, .inl ⟨by decide, by decide⟩, _, rfl, a, [(x : Int), (y : Int), (z : Int)], rfl, hS, _, _, rfl, rfl, k⟩

def spStand (K : PySem.W.Frag) : Sp := fun vs H Q _ => ∃ (a b c : Addr) (r s : Nat) (g l m : List Nat), vs = [.int (r : Int), .int (s : Int), .ref a, .ref b, .ref c] ∧ SqL K H a (vNs g) ∧ SqL K H b (vNs l) ∧ SqL K H c (vNs m) ∧ g.length ≤ 10 ∧ l.length ≤ 44 ∧ l.length % 2 = 0 ∧ m.length ≤ 44 ∧ m.length % 2 = 0 ∧
  ∀ H' : Hp, Same H H' → Q (.bl (standB r s g (two l) (two m))) H'
theorem scStand : FnScope ["r", "s", "seats", "likes", "hates"] ["r", "s", "seats", "likes", "hates"] (defScope sStand) := ⟨rfl, rfl, rfl, by decide +kernel, rfl, by decide +kernel, by decide +kernel⟩
theorem ok_stand {f f1 f2 f3 f4 f5 f6 f7 : Addr} {fd fd1 fd2 fd3 fd4 fd5 fd6 fd7 : FuncData} (F : Fun K "is_standing_cabinet" "is_standing_cabinet" sStand f fd) (T : Txt K mg)
    (D1 : Def K mg "is_of" sIsOf ["party", "s"] f1 fd1) (D2 : Def K mg "likes_one_of" sLikes ["party", "s", "likes"] f2 fd2) (D3 : Def K mg "hates_one_of" sHates ["party", "s", "hates"] f3 fd3)
    (D4 : Def K mg "way_of" sWay ["party", "s", "likes", "hates"] f4 fd4) (D5 : Def K mg "votes_on" sVotes ["s", "seats", "likes", "hates"] f5 fd5)
    (D6 : Def K mg "is_cabinet" sCab ["s", "hates"] f6 fd6) (D7 : Def K mg "has_what_rule_asks" sAsks ["r", "votes"] f7 fd7) :
    FnOk P w K mg base CX0 5 f fd ["r", "s", "seats", "likes", "hates"] (spStand K) := by
  have G5 : FnOk P w K mg base CX0 4 f5 fd5 ["s", "seats", "likes", "hates"] (spVotes K) := ok_votes D5.fn T D1 D2 D3 D4
  have G6 : FnOk P w K mg base CX0 2 f6 fd6 ["s", "hates"] (spCab K) := ok_cab D6.fn T D1
  have G7 : FnOk P w K mg base CX0 1 f7 fd7 ["r", "votes"] (spAsks K) := ok_asks D7.fn T
  refine F.ok scStand (fun vs H Q E h => ?_) (fun cdv A outer s H vs Q E hr h => ?_)
  · obtain ⟨a, b, c, r, s, g, l, m, rfl, _⟩ := h
    rfl
  obtain ⟨a, b, c, r, s, g, l, m, rfl, hA, hB, hC, hg, hl, hle, hm, hme, k⟩ := h
  have hr1 : Room 1 _ := hr.mono (by decide)
  have hr2 : Room 2 _ := hr.mono (by decide)
  refine ⟨_, pss_cons (ps_if (pt_not (pt_val (pe_call G6 hr2 rfl D6.gl D6.fn.kp D6.bd .nil pass0 (pa_cons (pv 1) (pa_cons (pv 4) pa_nil))))) (pss_one (ps_ret pe_bl)) pss_nil)
    (pss_one (ps_ret (pe_call G7 hr1 rfl D7.gl D7.fn.kp D7.bd .nil pass0 (pa_cons (pv 0) (pa_cons (pe_call G5 hr rfl D5.gl D5.fn.kp D5.bd .nil pass0 (pa_cons (pv 1) (pa_cons (pv 2) (pa_cons (pv 3) (pa_cons (pv 4) pa_nil))))) pa_nil))))), ?_⟩
  unfold standB at k
  refine ⟨_, rfl, _, rfl, c, s, m, rfl, hC, hm, hme, _, rfl, ?_⟩
  cases e1 : cabinet s (two m) with
  | false =>
    rw [e1] at k
    exact iteT (k H (Same.refl H))
  | true =>
    rw [e1] at k
    refine iteF ?_
    refine ⟨_, rfl, _, rfl, _, rfl, _, rfl, _, rfl, a, b, c, s, g, l, m, rfl, hA, hB, hC, hg, hl, hle, hm, hme, fun H' p sm _ hv => ?_⟩
    exact ⟨p, r, _, _, _, rfl, SqL.of hv, k H' sm⟩

theorem vNs_snoc (l : List Nat) (n : Nat) : vNs (l ++ [n]) = vNs l ++ [V.int (n : Int)] := by
  unfold vNs
  rw [List.map_append]
  rfl
theorem pow_cast (n : Nat) : (2 : Int) ^ n = ((2 ^ n : Nat) : Int) := by
  rw [Int.natCast_pow]
  rfl
theorem pow_le10 {n : Nat} (h : n ≤ 10) : 2 ^ n ≤ 1024 := Nat.pow_le_pow_right (by decide) h
theorem flat_nats : ∀ l : List Nat, (vNs l).all flatV = true
  | [] => rfl
  | x :: l => flat_nats l
theorem in_nats (x : Nat) : ∀ l : List Nat, inV (V.int (x : Int)) (vNs l) = l.contains x
  | [] => rfl
  | y :: l => by
    have ih := in_nats x l
    show (((y : Int) == (x : Int)) || inV (V.int (x : Int)) (vNs l)) = (y :: l).contains x
    rw [ih, List.contains_cons]
    congr 1
    rw [Bool.eq_iff_iff, beq_iff_eq, beq_iff_eq]
    omega

/-- len(xs) within a comprehension: what it asks, free of the block's own place -/
def rLen (K : PySem.W.Frag) : List V → Hp → VK → Prop := fun xs H Q => ∃ p ys, xs = [V.ref p] ∧ (SqL K H p ys ∨ SqT K H p ys) ∧ Q (V.int (ys.length : Int)) H
theorem call_len_in {X : Cx} {K : PySem.W.Frag} (h : X.K = K) : CallR X (.builtin "len") (rLen K) := by
  subst h
  exact call_len_seq

def spAll (K : PySem.W.Frag) : Sp := fun vs H Q _ => ∃ (a b c : Addr) (r : Nat) (g l m : List Nat), vs = [.int (r : Int), .ref a, .ref b, .ref c] ∧ SqL K H a (vNs g) ∧ SqL K H b (vNs l) ∧ SqL K H c (vNs m) ∧ g.length ≤ 10 ∧ l.length ≤ 44 ∧ l.length % 2 = 0 ∧ m.length ≤ 44 ∧ m.length % 2 = 0 ∧
  ∀ (H' : Hp) (p : Addr), Same H H' → H p = none → H' p = some (.lst (vNs (allL r g l m))) → Q (.ref p) H'
theorem scAll : FnScope ["r", "seats", "likes", "hates", "s"] ["r", "seats", "likes", "hates"] (defScope sAll) := ⟨rfl, rfl, rfl, by decide +kernel, rfl, by decide +kernel, by decide +kernel⟩
theorem ok_all {f f1 f2 f3 f4 f5 f6 f7 f8 : Addr} {fd fd1 fd2 fd3 fd4 fd5 fd6 fd7 fd8 : FuncData} (F : Fun K "standing_cabinets" "standing_cabinets" sAll f fd) (T : Txt K mg)
    (D1 : Def K mg "is_of" sIsOf ["party", "s"] f1 fd1) (D2 : Def K mg "likes_one_of" sLikes ["party", "s", "likes"] f2 fd2) (D3 : Def K mg "hates_one_of" sHates ["party", "s", "hates"] f3 fd3)
    (D4 : Def K mg "way_of" sWay ["party", "s", "likes", "hates"] f4 fd4) (D5 : Def K mg "votes_on" sVotes ["s", "seats", "likes", "hates"] f5 fd5)
    (D6 : Def K mg "is_cabinet" sCab ["s", "hates"] f6 fd6) (D7 : Def K mg "has_what_rule_asks" sAsks ["r", "votes"] f7 fd7) (D8 : Def K mg "is_standing_cabinet" sStand ["r", "s", "seats", "likes", "hates"] f8 fd8) :
    FnOk P w K mg base CX0 6 f fd ["r", "seats", "likes", "hates"] (spAll K) := by
  have G8 : FnOk P w K mg base CX0 5 f8 fd8 ["r", "s", "seats", "likes", "hates"] (spStand K) := ok_stand D8.fn T D1 D2 D3 D4 D5 D6 D7
  refine F.ok scAll (fun vs H Q E h => ?_) (fun cdv A outer s H vs Q E hr h => ?_)
  · obtain ⟨a, b, c, r, g, l, m, rfl, _⟩ := h
    rfl
  obtain ⟨a, b, c, r, g, l, m, rfl, hA, hB, hC, hg, hl, hle, hm, hme, k⟩ := h
  refine ⟨_, pss_one (ps_ret (pe_lc (own := [("s", 4)]) (g := gName 4) rfl scAll.nd (pi_range1 rfl T.range (pa_cons (pe_op op_oneShl pe_int (pe_callB call_len_seq rfl T.len PySem.boot_len (pa_cons (pv 1) pa_nil))) pa_nil))
    (blkOk_by (own := [("s", 4)]) (N := ["r", "seats", "likes", "hates", "s"]) (sc := defScope sAll) (by decide +kernel)) (fun _ _ _ _ _ => pg_name (i := 4) scAll.nd rfl (Or.inl rfl))
    (fun _ _ _ _ _ => pts_one (pt_val (pe_call G8 hr rfl D8.gl D8.fn.kp D8.bd .nil pass0 (pa_cons (pv 0) (pa_cons (pv 4) (pa_cons (pv 1) (pa_cons (pv 2) (pa_cons (pv 3) pa_nil)))))))) (fun _ _ _ _ _ => pv 4))), ?_⟩
  have p10 := pow_le10 hg
  have q0 : (0 : Int) ≤ (2 : Int) ^ g.length := by
    rw [pow_cast]
    exact Int.natCast_nonneg _
  have q1 : (2 : Int) ^ g.length ≤ 1024 := by
    rw [pow_cast]
    exact Int.ofNat_le.mpr p10
  refine ⟨_, rfl, a, _, rfl, .inl hA, g.length, rfl, by rw [vNs_len], by omega, ?_⟩
  refine ⟨_, rfl, by omega, by omega, fun D hD => lc_range (lo := 0) (n := ((2 : Int) ^ g.length).toNat) (fun i H' => Same H H' ∧ H' D = some (.lst (vNs (standL r g (two l) (two m) i))))
    ⟨put_same (Same.refl H) hD, upd_same⟩ ?_ ?_⟩
  · rintro i H' hi ⟨s1, hv⟩
    rw [pow_cast, Int.toNat_natCast] at hi
    have i0 : (0 : Int) + (i : Nat) = (i : Int) := by omega
    refine ⟨rfl, _, rfl, _, rfl, _, rfl, _, rfl, _, rfl, a, b, c, r, i, g, l, m, by rw [i0] <;> rfl, s1.seq hA, s1.seq hB, s1.seq hC, hg, hl, hle, hm, hme, fun H2 s2 => ⟨_, rfl, ?_⟩⟩
    have hv2 : H2 D = some (.lst (vNs (standL r g (two l) (two m) i))) := s2 D _ hv
    have s3 : Same H H2 := fun b u e => s2 b u (s1 b u e)
    have sl := standL_len r g (two l) (two m) i
    cases e : standB r i g (two l) (two m) with
    | true =>
      refine iteT ?_
      refine ⟨_, rfl, _, hv2, by rw [vNs_len]; show _ < sizeLine; exact Nat.lt_of_le_of_lt (show _ ≤ 1024 by omega) (by decide), put_same s3 hD, ?_⟩
      rw [standL_more, if_pos e, vNs_snoc, i0]
      exact upd_same
    | false =>
      refine iteF ?_
      refine ⟨s3, ?_⟩
      rw [standL_more, if_neg (by rw [e]; exact Bool.false_ne_true)]
      exact hv2
  · rintro H' ⟨s1, hv⟩
    rw [pow_cast, Int.toNat_natCast] at hv
    exact k H' D s1 hD hv


/-- xs[i] within a comprehension: what it asks, free of the block's own place -/
theorem ix_list_in {X : Cx} {K : PySem.W.Frag} (h : X.K = K) : IxR X (rIxL K) := by
  subst h
  exact ix_list
theorem vNs_ints (l : List Nat) : (l.map fun (n : Nat) => (n : Int)).map V.int = vNs l := by
  unfold vNs
  rw [List.map_map]
  rfl
theorem nats_sum : ∀ l : List Nat, (l.map fun (n : Nat) => (n : Int)).sum = ((l.sum : Nat) : Int)
  | [] => rfl
  | x :: l => by
    have ih := nats_sum l
    rw [List.map_cons, List.sum_cons, List.sum_cons, ih]
    omega
/-- a comprehension without a test -/
theorem yes_if {σ : L2.St} {H : Hp} {A B : Hp → Prop} (h : A H) : tYes σ H fun b H' => if b = true then A H' else B H' := by
  show (if true = true then A H else B H)
  rw [if_pos (show true = true from rfl)]
  exact h
theorem small_line {n : Nat} (h : n ≤ 1024) : n < sizeLine := Nat.lt_of_le_of_lt h (by decide)

def spTog (K : PySem.W.Frag) : Sp := fun vs H Q _ => ∃ (a : Addr) (s : Nat) (z : List Nat), vs = [.int (s : Int), .ref a] ∧ SqL K H a (vNs z) ∧ z.length ≤ 10 ∧ ∀ H' : Hp, Same H H' → Q (.int ((tog z s : Nat) : Int)) H'
theorem scTog : FnScope ["s", "sizes", "party"] ["s", "sizes"] (defScope sTog) := ⟨rfl, rfl, rfl, by decide +kernel, rfl, by decide +kernel, by decide +kernel⟩
theorem ok_tog {f f1 : Addr} {fd fd1 : FuncData} (F : Fun K "together" "together" sTog f fd) (T : Txt K mg) (D1 : Def K mg "is_of" sIsOf ["party", "s"] f1 fd1) : FnOk P w K mg base CX0 2 f fd ["s", "sizes"] (spTog K) := by
  have G1 : FnOk P w K mg base CX0 1 f1 fd1 ["party", "s"] spIsOf := ok_isof D1.fn
  refine F.ok scTog (fun vs H Q E h => ?_) (fun cdv A outer s H vs Q E hr h => ?_)
  · obtain ⟨a, s, z, rfl, _⟩ := h
    rfl
  obtain ⟨a, s, z, rfl, hS, hz, k⟩ := h
  refine ⟨_, pss_one (ps_ret (pe_callB (cr_sum rfl) rfl T.sum boot_sum (pa_cons (pe_lc (own := [("party", 2)]) (g := gName 2) rfl scTog.nd (pi_range1 rfl T.range (pa_cons (pe_callB call_len_seq rfl T.len PySem.boot_len (pa_cons (pv 1) pa_nil)) pa_nil))
    (blkOk_by (own := [("party", 2)]) (N := ["s", "sizes", "party"]) (sc := defScope sTog) (by decide +kernel)) (fun _ _ _ _ _ => pg_name (i := 2) scTog.nd rfl (Or.inl rfl))
    (fun _ _ _ _ _ => pts_one (pt_val (pe_call G1 hr rfl D1.gl D1.fn.kp D1.bd .nil pass0 (pa_cons (pv 2) (pa_cons (pv 0) pa_nil))))) (fun _ _ _ _ _ => pe_ix (ix_list_in (K := K) rfl) (pv 1) (pv 2) (fun _ _ => rfl))) pa_nil))), ?_⟩
  refine ⟨_, rfl, a, _, rfl, .inl hS, _, rfl, by rw [vNs_len]; omega, by rw [vNs_len]; omega, fun D hD => lc_range (lo := 0) (n := (((vNs z).length : Nat) : Int).toNat) (fun i H' => Same H H' ∧ H' D = some (.lst (vNs (togL z s i))))
    ⟨put_same (Same.refl H) hD, upd_same⟩ ?_ ?_⟩
  · rintro i H' hi ⟨s1, hv⟩
    rw [Int.toNat_natCast, vNs_len] at hi
    obtain ⟨x, hx⟩ : ∃ x, z[i]? = some x := ⟨_, List.getElem?_eq_getElem hi⟩
    have i0 : (0 : Int) + (i : Nat) = (i : Int) := by omega
    have tl := togL_len z s i
    refine ⟨rfl, _, rfl, _, rfl, i, s, by rw [i0] <;> rfl, _, rfl, ?_⟩
    cases e : s.testBit i with
    | true =>
      refine iteT ?_
      refine ⟨_, rfl, _, rfl, a, _, _, _, rfl, rfl, s1.seq hS, vNs_at hx i0, _, hv, by rw [vNs_len]; exact small_line (by omega), put_same s1 hD, ?_⟩
      rw [togL_more hx, if_pos e, vNs_snoc]
      exact upd_same
    | false =>
      refine iteF ?_
      refine ⟨s1, ?_⟩
      rw [togL_more hx, if_neg (by rw [e]; exact Bool.false_ne_true)]
      exact hv
  · rintro H' ⟨s1, hv⟩
    rw [Int.toNat_natCast, vNs_len] at hv
    refine ⟨D, (togL z s z.length).map fun (n : Nat) => (n : Int), rfl, SqL.of (by rw [vNs_ints]; exact hv), ?_⟩
    rw [nats_sum]
    exact k H' s1

def spLeast (K : PySem.W.Frag) : Sp := fun vs H Q _ => ∃ (a b : Addr) (L z : List Nat), vs = [.ref a, .ref b] ∧ SqL K H a (vNs L) ∧ SqL K H b (vNs z) ∧ L.length ≤ 1024 ∧ z.length ≤ 10 ∧ L.Pairwise (· < ·) ∧
  ∀ (H' : Hp) (p : Addr), H' p = some (.lst ((leastF (tog z) L).map V.int)) → Q (.ref p) H'
theorem scLeast : FnScope ["sets", "sizes", "least", "s"] ["sets", "sizes"] (defScope sLeast) := ⟨rfl, rfl, rfl, by decide +kernel, rfl, by decide +kernel, by decide +kernel⟩
theorem ok_least {f f1 f2 : Addr} {fd fd1 fd2 : FuncData} (F : Fun K "least_together" "least_together" sLeast f fd) (T : Txt K mg) (D1 : Def K mg "is_of" sIsOf ["party", "s"] f1 fd1) (D2 : Def K mg "together" sTog ["s", "sizes"] f2 fd2) : FnOk P w K mg base CX0 3 f fd ["sets", "sizes"] (spLeast K) := by
  have G2 : FnOk P w K mg base CX0 2 f2 fd2 ["s", "sizes"] (spTog K) := ok_tog D2.fn T D1
  refine F.ok scLeast (fun vs H Q E h => ?_) (fun cdv A outer s H vs Q E hr h => ?_)
  · obtain ⟨a, b, L, z, rfl, _⟩ := h
    rfl
  obtain ⟨a, b, L, z, rfl, hA, hB, hL, hz, rise, k⟩ := h
  refine ⟨_, pss_cons (ps_if (pt_cmp (pc_eqI (pe_callB call_len_seq rfl T.len PySem.boot_len (pa_cons (pv 0) pa_nil)) pe_int)) (pss_one (ps_ret (pe_lst (pa_cons (pe_cst T.c_NONE_STANDS) pa_nil)))) pss_nil)
    (pss_cons (ps_set (i := 2) scLeast.nd rfl (Or.inr rfl) (pe_callB (cr_min rfl) rfl T.min boot_min (pa_cons
      (pe_lc (own := [("s", 3)]) (g := gName 3) rfl scLeast.nd (pi_list (pv 0))
        (blkOk_by (own := [("s", 3)]) (N := ["sets", "sizes", "least", "s"]) (sc := defScope sLeast) (by decide +kernel)) (fun _ _ _ _ _ => pg_name (i := 3) scLeast.nd rfl (Or.inl rfl))
        (fun _ _ _ _ _ => pts_nil) (fun _ _ _ _ _ => pe_call G2 hr rfl D2.gl D2.fn.kp D2.bd .nil pass0 (pa_cons (pv 3) (pa_cons (pv 1) pa_nil)))) pa_nil)))
    (pss_one (ps_ret (pe_lst (pa_cons (pv 2) (pa_cons (pe_callB (cr_min rfl) rfl T.min boot_min (pa_cons
      (pe_lc (own := [("s", 3)]) (g := gName 3) rfl scLeast.nd (pi_list (pv 0))
        (blkOk_by (own := [("s", 3)]) (N := ["sets", "sizes", "least", "s"]) (sc := defScope sLeast) (by decide +kernel)) (fun _ _ _ _ _ => pg_name (i := 3) scLeast.nd rfl (Or.inl rfl))
        (fun _ _ _ _ _ => pts_one (pt_cmp (pc_eqI (pe_call G2 hr rfl D2.gl D2.fn.kp D2.bd .nil pass0 (pa_cons (pv 3) (pa_cons (pv 1) pa_nil))) (pv 2)))) (fun _ _ _ _ _ => pv 3)) pa_nil)) pa_nil)))))), ?_⟩
  refine ⟨_, rfl, a, _, rfl, .inl hA, _, _, rfl, rfl, _, rfl, ?_⟩
  refine ite2 (fun c => ?_) (fun c => ?_)
  · have c1 : ((vNs L).length : Int) = 0 := of_decide_eq_true c
    rw [vNs_len] at c1
    have e : L = [] := List.eq_nil_of_length_eq_zero (by omega)
    subst e
    exact ⟨(by show 1 ≤ sizeLine; decide), fun p hp => k _ p upd_same⟩
  · have c1 : ¬ ((vNs L).length : Int) = 0 := fun q => c (decide_eq_true q)
    rw [vNs_len] at c1
    have tk : ∀ i, (L.take i).length ≤ 1024 := fun i => by
      have q : (L.take i).length ≤ L.length := by rw [List.length_take]; omega
      omega
    refine ⟨_, rfl, a, rfl, ⟨_, hA⟩, fun D hD => lc_list (K := K) (a := a) (xs := vNs L) (fun i H' => Same H H' ∧ H' D = some (.lst (vNs ((L.take i).map (tog z)))))
      ⟨put_same (Same.refl H) hD, upd_same⟩ (fun i H' _ h => h.1.seq hA) ?_ ?_⟩
    · rintro i x H' hx ⟨s1, hw⟩
      obtain ⟨n, hn, rfl⟩ := vNs_get hx
      refine ⟨rfl, yes_if ?_⟩
      refine ⟨_, rfl, _, rfl, b, n, z, rfl, s1.seq hB, hz, fun H2 s2 => ?_⟩
      refine ⟨_, s2 D _ hw, by rw [vNs_len, List.length_map]; exact small_line (tk i), put_same (s1.trans s2) hD, ?_⟩
      rw [map_more hn, vNs_snoc]
      exact upd_same
    · rintro H1 ⟨s1, hw⟩
      rw [vNs_len, List.take_length] at hw
      refine ⟨D, (L.map (tog z)).map fun (n : Nat) => (n : Int), rfl, SqL.of (by rw [vNs_ints]; exact hw), by rw [List.length_map, List.length_map]; omega, fun m hm hle => ?_⟩
      obtain ⟨n, hn, rfl⟩ := List.mem_map.mp hm
      have n2 : ∀ y ∈ L.map (tog z), n ≤ y := fun y my => by
        have q := hle (y : Int) (List.mem_map.mpr ⟨y, my, rfl⟩)
        omega
      refine ⟨_, rfl, _, rfl, a, rfl, ⟨_, s1.seq hA⟩, fun D2 hD2 => lc_list (K := K) (a := a) (xs := vNs L) (fun i H' => Same H1 H' ∧ H' D2 = some (.lst (vNs ((L.take i).filter fun s => decide (tog z s = n)))))
        ⟨put_same (Same.refl H1) hD2, upd_same⟩ (fun i H' _ h => h.1.seq (s1.seq hA)) ?_ ?_⟩
      · rintro i x H' hx ⟨s2, hv⟩
        obtain ⟨t, ht, rfl⟩ := vNs_get hx
        refine ⟨rfl, _, rfl, _, rfl, b, t, z, rfl, s2.seq (s1.seq hB), hz, fun H3 s3 => ⟨_, rfl, _, _, rfl, rfl, _, rfl, ?_⟩⟩
        have hv3 := s3 D2 _ hv
        refine ite2 (fun c => ?_) (fun c => ?_)
        · have c2 : ((tog z t : Nat) : Int) = (n : Int) := of_decide_eq_true c
          have e : decide (tog z t = n) = true := decide_eq_true (by omega)
          refine ⟨_, rfl, _, hv3, ?_, put_same (s2.trans s3) hD2, ?_⟩
          · rw [vNs_len]
            exact small_line (Nat.le_trans (List.length_filter_le _ _) (tk i))
          · rw [filter_more ht, if_pos e, vNs_snoc]
            exact upd_same
        · have c2 : ¬ ((tog z t : Nat) : Int) = (n : Int) := fun q => c (decide_eq_true q)
          have e : ¬ decide (tog z t = n) = true := fun q => c2 (by rw [of_decide_eq_true q])
          refine ⟨s2.trans s3, ?_⟩
          rw [filter_more ht, if_neg e]
          exact hv3
      · rintro H' ⟨s2, hv⟩
        rw [vNs_len, List.take_length] at hv
        obtain ⟨x0, mx, ex⟩ := List.mem_map.mp hn
        have nz : 0 < (L.filter fun s => decide (tog z s = n)).length := List.length_pos_of_mem (List.mem_filter.mpr ⟨mx, decide_eq_true ex⟩)
        refine ⟨D2, (L.filter fun s => decide (tog z s = n)).map fun (n : Nat) => (n : Int), rfl, SqL.of (by rw [vNs_ints]; exact hv), by rw [List.length_map]; exact nz, fun q hq hqe => ?_⟩
        obtain ⟨t, ht, rfl⟩ := List.mem_map.mp hq
        have t2 : ∀ y ∈ L.filter fun s => decide (tog z s = n), t ≤ y := fun y my => by
          have q := hqe (y : Int) (List.mem_map.mpr ⟨y, my, rfl⟩)
          omega
        rw [least_is rise hn n2 ht t2] at k
        exact ⟨(by show 2 ≤ sizeLine; decide), fun p hp => k _ p upd_same⟩

def spSmallest (K : PySem.W.Frag) : Sp := fun vs H Q _ => ∃ (a b c : Addr) (r : Nat) (g l m : List Nat), vs = [.int (r : Int), .ref a, .ref b, .ref c] ∧ SqL K H a (vNs g) ∧ SqL K H b (vNs l) ∧ SqL K H c (vNs m) ∧ g.length ≤ 10 ∧ l.length ≤ 44 ∧ m.length ≤ 44 ∧
  ∀ (H' : Hp) (p : Addr), H' p = some (.lst ((Ks464Neutral.out (Ks464.answer (.smallest r g l m))).map V.int)) → Q (.ref p) H'
theorem scSmallest : FnScope ["r", "seats", "likes", "hates"] ["r", "seats", "likes", "hates"] (defScope sSmallest) := ⟨rfl, rfl, rfl, by decide +kernel, rfl, by decide +kernel, by decide +kernel⟩
theorem ok_smallest {f f1 f2 f3 f4 f5 f6 f7 f8 f10 f11 f12 f13 f14 f17 f18 : Addr} {fd fd1 fd2 fd3 fd4 fd5 fd6 fd7 fd8 fd10 fd11 fd12 fd13 fd14 fd17 fd18 : FuncData} (F : Fun K "smallest" "smallest" sSmallest f fd) (T : Txt K mg)
    (D1 : Def K mg "is_of" sIsOf ["party", "s"] f1 fd1) (D2 : Def K mg "likes_one_of" sLikes ["party", "s", "likes"] f2 fd2) (D3 : Def K mg "hates_one_of" sHates ["party", "s", "hates"] f3 fd3)
    (D4 : Def K mg "way_of" sWay ["party", "s", "likes", "hates"] f4 fd4) (D5 : Def K mg "votes_on" sVotes ["s", "seats", "likes", "hates"] f5 fd5)
    (D6 : Def K mg "seats_are_as_told" sSeats ["seats"] f6 fd6) (D7 : Def K mg "pairs_are_as_told" sPairs ["pairs", "parties"] f7 fd7) (D8 : Def K mg "house_is_as_told" sHouse ["seats", "likes", "hates"] f8 fd8)
    (D10 : Def K mg "house_and_rule_are_as_told" sHR ["r", "seats", "likes", "hates"] f10 fd10) (D11 : Def K mg "is_cabinet" sCab ["s", "hates"] f11 fd11) (D12 : Def K mg "has_what_rule_asks" sAsks ["r", "votes"] f12 fd12) (D13 : Def K mg "is_standing_cabinet" sStand ["r", "s", "seats", "likes", "hates"] f13 fd13)
    (D14 : Def K mg "standing_cabinets" sAll ["r", "seats", "likes", "hates"] f14 fd14) (D17 : Def K mg "together" sTog ["s", "sizes"] f17 fd17) (D18 : Def K mg "least_together" sLeast ["sets", "sizes"] f18 fd18) :
    FnOk P w K mg base CX0 7 f fd ["r", "seats", "likes", "hates"] (spSmallest K) := by
  have G10 : FnOk P w K mg base CX0 3 f10 fd10 ["r", "seats", "likes", "hates"] (spHR K) := ok_hr D10.fn T D6 D7 D8
  have G14 : FnOk P w K mg base CX0 6 f14 fd14 ["r", "seats", "likes", "hates"] (spAll K) := ok_all D14.fn T D1 D2 D3 D4 D5 D11 D12 D13
  have G18 : FnOk P w K mg base CX0 3 f18 fd18 ["sets", "sizes"] (spLeast K) := ok_least D18.fn T D1 D17
  refine F.ok scSmallest (fun vs H Q E h => ?_) (fun cdv A outer s H vs Q E hr h => ?_)
  · obtain ⟨a, b, c, r, g, l, m, rfl, _⟩ := h
    rfl
  obtain ⟨a, b, c, r, g, l, m, rfl, hA, hB, hC, hg, hl, hm, k⟩ := h
  have hr3 : Room 3 _ := hr.mono (by decide)
  refine ⟨_, pss_cons (ps_if (pt_not (pt_val (pe_call G10 hr3 rfl D10.gl D10.fn.kp D10.bd .nil pass0 (pa_cons (pv 0) (pa_cons (pv 1) (pa_cons (pv 2) (pa_cons (pv 3) pa_nil))))))) (pss_one (ps_ret (pe_lst (pa_cons (pe_cst T.c_NOT_AS_TOLD) pa_nil)))) pss_nil)
    (pss_one (ps_ret (pe_call G18 hr3 rfl D18.gl D18.fn.kp D18.bd .nil pass0 (pa_cons (pe_call G14 hr rfl D14.gl D14.fn.kp D14.bd .nil pass0 (pa_cons (pv 0) (pa_cons (pv 1) (pa_cons (pv 2) (pa_cons (pv 3) pa_nil))))) (pa_cons (pv 1) pa_nil))))), ?_⟩
  rw [smallest_tog] at k
  refine ⟨_, rfl, _, rfl, _, rfl, _, rfl, a, b, c, r, g, l, m, rfl, hA, hB, hC, hl, hm, _, rfl, ?_⟩
  cases e1 : (houseOk g l m && decide (r ≤ 2)) with
  | false =>
    rw [e1, if_neg Bool.false_ne_true] at k
    refine iteT ?_
    exact ⟨(by show 1 ≤ sizeLine; decide), fun p hp => k _ p upd_same⟩
  | true =>
    rw [e1, if_pos rfl] at k
    refine iteF ?_
    rw [Bool.and_eq_true] at e1
    obtain ⟨o1, o2, o3⟩ := houseOk_all e1.1
    have ll := standL_len r g (two l) (two m) (2 ^ g.length)
    have p10 := pow_le10 hg
    have rise : (allL r g l m).Pairwise (· < ·) := standL_rise r g (two l) (two m) (2 ^ g.length)
    refine ⟨_, rfl, _, rfl, _, rfl, _, rfl, a, b, c, r, g, l, m, rfl, hA, hB, hC, hg, hl, pairsOk_even o2, hm, pairsOk_even o3, fun H' p s1 _ hv => ?_⟩
    exact ⟨_, rfl, p, a, _, g, rfl, SqL.of hv, s1.seq hA, Nat.le_trans ll p10, hg, rise, fun H'' q hw => k H'' q hw⟩
end
/-! ### the end: what the top has written, every address a letter -/
theorem all_mk {P : Program} {w : World} {K : PySem.W.Frag} {h : Heap} {mg : Str → Option Value} {fa f1 f2 f3 f4 f5 f6 f7 f8 f9 f10 f11 f12 f13 f14 f15 f16 : Addr} (X : K.In h) (G : h.Ns mainGlobals mg) (hfa : mg "smallest" = some (.ref fa))
    {od1 an1 od2 an2 od3 an3 od4 an4 od5 an5 od6 an6 od7 an7 od8 an8 od9 an9 od10 an10 od11 an11 od12 an12 od13 an13 od14 an14 od15 an15 od16 an16 : Option Addr} {sl1 sl2 sl3 sl4 sl5 sl6 sl7 sl8 sl9 sl10 sl11 sl12 sl13 sl14 sl15 sl16 : Array (Option Value)} {oc1 kV1 dc1 pm1 cd1 ct1 oc2 kV2 dc2 pm2 cd2 ct2 oc3 kV3 dc3 pm3 cd3 ct3 oc4 kV4 dc4 pm4 cd4 ct4 oc5 kV5 dc5 pm5 cd5 ct5 oc6 kV6 dc6 pm6 cd6 ct6 oc7 kV7 dc7 pm7 cd7 ct7 oc8 kV8 dc8 pm8 cd8 ct8 oc9 kV9 dc9 pm9 cd9 ct9 oc10 kV10 dc10 pm10 cd10 ct10 oc11 kV11 dc11 pm11 cd11 ct11 oc12 kV12 dc12 pm12 cd12 ct12 oc13 kV13 dc13 pm13 cd13 ct13 oc14 kV14 dc14 pm14 cd14 ct14 oc15 kV15 dc15 pm15 cd15 ct15 oc16 kV16 dc16 pm16 cd16 ct16 : Value} {t_NOT_AS_TOLD t_NONE_STANDS t_MOST_PARTIES t_MOST_SEATS t_MOST_NUMBERS t_MORE_FOR_THAN_AGAINST t_MORE_THAN_HALF_FOR t_NOT_MORE_THAN_HALF_AGAINST t_VOTES_FOR t_VOTES_AGAINST t_VOTES_NEITHER_WAY : Tok}
    (b_len : PySem.W.nsIn K mainGlobals "len" = some none)
    (b_range : PySem.W.nsIn K mainGlobals "range" = some none)
    (b_sum : PySem.W.nsIn K mainGlobals "sum" = some none)
    (b_min : PySem.W.nsIn K mainGlobals "min" = some none)
    (n_NOT_AS_TOLD : PySem.W.nsIn K mainGlobals "NOT_AS_TOLD" = some (some (.int (-22) t_NOT_AS_TOLD)))
    (n_NONE_STANDS : PySem.W.nsIn K mainGlobals "NONE_STANDS" = some (some (.int (-33) t_NONE_STANDS)))
    (n_MOST_PARTIES : PySem.W.nsIn K mainGlobals "MOST_PARTIES" = some (some (.int 6 t_MOST_PARTIES)))
    (n_MOST_SEATS : PySem.W.nsIn K mainGlobals "MOST_SEATS" = some (some (.int 200 t_MOST_SEATS)))
    (n_MOST_NUMBERS : PySem.W.nsIn K mainGlobals "MOST_NUMBERS" = some (some (.int 40 t_MOST_NUMBERS)))
    (n_MORE_FOR_THAN_AGAINST : PySem.W.nsIn K mainGlobals "MORE_FOR_THAN_AGAINST" = some (some (.int 0 t_MORE_FOR_THAN_AGAINST)))
    (n_MORE_THAN_HALF_FOR : PySem.W.nsIn K mainGlobals "MORE_THAN_HALF_FOR" = some (some (.int 1 t_MORE_THAN_HALF_FOR)))
    (n_NOT_MORE_THAN_HALF_AGAINST : PySem.W.nsIn K mainGlobals "NOT_MORE_THAN_HALF_AGAINST" = some (some (.int 2 t_NOT_MORE_THAN_HALF_AGAINST)))
    (n_VOTES_FOR : PySem.W.nsIn K mainGlobals "VOTES_FOR" = some (some (.int 0 t_VOTES_FOR)))
    (n_VOTES_AGAINST : PySem.W.nsIn K mainGlobals "VOTES_AGAINST" = some (some (.int 1 t_VOTES_AGAINST)))
    (n_VOTES_NEITHER_WAY : PySem.W.nsIn K mainGlobals "VOTES_NEITHER_WAY" = some (some (.int 2 t_VOTES_NEITHER_WAY)))
    (a1 : PySem.W.nsIn K mainGlobals "seats_are_as_told" = some (some (.ref f1))) (l1 : K.lookup f1 = some ⟨oc1, od1, .func (PySem.W.fnOf "seats_are_as_told" "seats_are_as_told" (defArgs sSeats) (defBody sSeats) (defScope sSeats) .none kV1 dc1 pm1 an1 cd1 ct1), sl1⟩) (c1 : PySem.W.codeIn K cd1 "seats_are_as_told" = true) (k1 : PySem.W.keepIn K (.ref f1) = true)
    (a2 : PySem.W.nsIn K mainGlobals "pairs_are_as_told" = some (some (.ref f2))) (l2 : K.lookup f2 = some ⟨oc2, od2, .func (PySem.W.fnOf "pairs_are_as_told" "pairs_are_as_told" (defArgs sPairs) (defBody sPairs) (defScope sPairs) .none kV2 dc2 pm2 an2 cd2 ct2), sl2⟩) (c2 : PySem.W.codeIn K cd2 "pairs_are_as_told" = true) (k2 : PySem.W.keepIn K (.ref f2) = true)
    (a3 : PySem.W.nsIn K mainGlobals "house_is_as_told" = some (some (.ref f3))) (l3 : K.lookup f3 = some ⟨oc3, od3, .func (PySem.W.fnOf "house_is_as_told" "house_is_as_told" (defArgs sHouse) (defBody sHouse) (defScope sHouse) .none kV3 dc3 pm3 an3 cd3 ct3), sl3⟩) (c3 : PySem.W.codeIn K cd3 "house_is_as_told" = true) (k3 : PySem.W.keepIn K (.ref f3) = true)
    (a4 : PySem.W.nsIn K mainGlobals "house_and_rule_are_as_told" = some (some (.ref f4))) (l4 : K.lookup f4 = some ⟨oc4, od4, .func (PySem.W.fnOf "house_and_rule_are_as_told" "house_and_rule_are_as_told" (defArgs sHR) (defBody sHR) (defScope sHR) .none kV4 dc4 pm4 an4 cd4 ct4), sl4⟩) (c4 : PySem.W.codeIn K cd4 "house_and_rule_are_as_told" = true) (k4 : PySem.W.keepIn K (.ref f4) = true)
    (a5 : PySem.W.nsIn K mainGlobals "is_of" = some (some (.ref f5))) (l5 : K.lookup f5 = some ⟨oc5, od5, .func (PySem.W.fnOf "is_of" "is_of" (defArgs sIsOf) (defBody sIsOf) (defScope sIsOf) .none kV5 dc5 pm5 an5 cd5 ct5), sl5⟩) (c5 : PySem.W.codeIn K cd5 "is_of" = true) (k5 : PySem.W.keepIn K (.ref f5) = true)
    (a6 : PySem.W.nsIn K mainGlobals "likes_one_of" = some (some (.ref f6))) (l6 : K.lookup f6 = some ⟨oc6, od6, .func (PySem.W.fnOf "likes_one_of" "likes_one_of" (defArgs sLikes) (defBody sLikes) (defScope sLikes) .none kV6 dc6 pm6 an6 cd6 ct6), sl6⟩) (c6 : PySem.W.codeIn K cd6 "likes_one_of" = true) (k6 : PySem.W.keepIn K (.ref f6) = true)
    (a7 : PySem.W.nsIn K mainGlobals "hates_one_of" = some (some (.ref f7))) (l7 : K.lookup f7 = some ⟨oc7, od7, .func (PySem.W.fnOf "hates_one_of" "hates_one_of" (defArgs sHates) (defBody sHates) (defScope sHates) .none kV7 dc7 pm7 an7 cd7 ct7), sl7⟩) (c7 : PySem.W.codeIn K cd7 "hates_one_of" = true) (k7 : PySem.W.keepIn K (.ref f7) = true)
    (a8 : PySem.W.nsIn K mainGlobals "way_of" = some (some (.ref f8))) (l8 : K.lookup f8 = some ⟨oc8, od8, .func (PySem.W.fnOf "way_of" "way_of" (defArgs sWay) (defBody sWay) (defScope sWay) .none kV8 dc8 pm8 an8 cd8 ct8), sl8⟩) (c8 : PySem.W.codeIn K cd8 "way_of" = true) (k8 : PySem.W.keepIn K (.ref f8) = true)
    (a9 : PySem.W.nsIn K mainGlobals "votes_on" = some (some (.ref f9))) (l9 : K.lookup f9 = some ⟨oc9, od9, .func (PySem.W.fnOf "votes_on" "votes_on" (defArgs sVotes) (defBody sVotes) (defScope sVotes) .none kV9 dc9 pm9 an9 cd9 ct9), sl9⟩) (c9 : PySem.W.codeIn K cd9 "votes_on" = true) (k9 : PySem.W.keepIn K (.ref f9) = true)
    (a10 : PySem.W.nsIn K mainGlobals "is_cabinet" = some (some (.ref f10))) (l10 : K.lookup f10 = some ⟨oc10, od10, .func (PySem.W.fnOf "is_cabinet" "is_cabinet" (defArgs sCab) (defBody sCab) (defScope sCab) .none kV10 dc10 pm10 an10 cd10 ct10), sl10⟩) (c10 : PySem.W.codeIn K cd10 "is_cabinet" = true) (k10 : PySem.W.keepIn K (.ref f10) = true)
    (a11 : PySem.W.nsIn K mainGlobals "has_what_rule_asks" = some (some (.ref f11))) (l11 : K.lookup f11 = some ⟨oc11, od11, .func (PySem.W.fnOf "has_what_rule_asks" "has_what_rule_asks" (defArgs sAsks) (defBody sAsks) (defScope sAsks) .none kV11 dc11 pm11 an11 cd11 ct11), sl11⟩) (c11 : PySem.W.codeIn K cd11 "has_what_rule_asks" = true) (k11 : PySem.W.keepIn K (.ref f11) = true)
    (a12 : PySem.W.nsIn K mainGlobals "is_standing_cabinet" = some (some (.ref f12))) (l12 : K.lookup f12 = some ⟨oc12, od12, .func (PySem.W.fnOf "is_standing_cabinet" "is_standing_cabinet" (defArgs sStand) (defBody sStand) (defScope sStand) .none kV12 dc12 pm12 an12 cd12 ct12), sl12⟩) (c12 : PySem.W.codeIn K cd12 "is_standing_cabinet" = true) (k12 : PySem.W.keepIn K (.ref f12) = true)
    (a13 : PySem.W.nsIn K mainGlobals "standing_cabinets" = some (some (.ref f13))) (l13 : K.lookup f13 = some ⟨oc13, od13, .func (PySem.W.fnOf "standing_cabinets" "standing_cabinets" (defArgs sAll) (defBody sAll) (defScope sAll) .none kV13 dc13 pm13 an13 cd13 ct13), sl13⟩) (c13 : PySem.W.codeIn K cd13 "standing_cabinets" = true) (k13 : PySem.W.keepIn K (.ref f13) = true)
    (a14 : PySem.W.nsIn K mainGlobals "together" = some (some (.ref f14))) (l14 : K.lookup f14 = some ⟨oc14, od14, .func (PySem.W.fnOf "together" "together" (defArgs sTog) (defBody sTog) (defScope sTog) .none kV14 dc14 pm14 an14 cd14 ct14), sl14⟩) (c14 : PySem.W.codeIn K cd14 "together" = true) (k14 : PySem.W.keepIn K (.ref f14) = true)
    (a15 : PySem.W.nsIn K mainGlobals "least_together" = some (some (.ref f15))) (l15 : K.lookup f15 = some ⟨oc15, od15, .func (PySem.W.fnOf "least_together" "least_together" (defArgs sLeast) (defBody sLeast) (defScope sLeast) .none kV15 dc15 pm15 an15 cd15 ct15), sl15⟩) (c15 : PySem.W.codeIn K cd15 "least_together" = true) (k15 : PySem.W.keepIn K (.ref f15) = true)
    (a16 : PySem.W.nsIn K mainGlobals "smallest" = some (some (.ref f16))) (l16 : K.lookup f16 = some ⟨oc16, od16, .func (PySem.W.fnOf "smallest" "smallest" (defArgs sSmallest) (defBody sSmallest) (defScope sSmallest) .none kV16 dc16 pm16 an16 cd16 ct16), sl16⟩) (c16 : PySem.W.codeIn K cd16 "smallest" = true) (k16 : PySem.W.keepIn K (.ref f16) = true)
    : ∃ fd : FuncData, (∀ (s : Shared) (us : List Value), us.length = (["r", "seats", "likes", "hates"] : List Str).length → BindsTo s fd ⟨us, []⟩ ((["r", "seats", "likes", "hates"] : List Str).zip us)) ∧ ∀ base : Heap, K.In base → base.Ns mainGlobals mg → FnOk P w K mg base CX0 7 fa fd ["r", "seats", "likes", "hates"] (spSmallest K) := by
  have e := hfa.symm.trans (PySem.W.mg_of X G a16)
  cases e
  have T : Txt K mg := ⟨PySem.W.mg_none_of X G b_len, PySem.W.mg_none_of X G b_range, PySem.W.mg_none_of X G b_sum, PySem.W.mg_none_of X G b_min, ⟨_, PySem.W.mg_of X G n_NOT_AS_TOLD⟩, ⟨_, PySem.W.mg_of X G n_NONE_STANDS⟩, ⟨_, PySem.W.mg_of X G n_MOST_PARTIES⟩, ⟨_, PySem.W.mg_of X G n_MOST_SEATS⟩, ⟨_, PySem.W.mg_of X G n_MOST_NUMBERS⟩, ⟨_, PySem.W.mg_of X G n_MORE_FOR_THAN_AGAINST⟩, ⟨_, PySem.W.mg_of X G n_MORE_THAN_HALF_FOR⟩, ⟨_, PySem.W.mg_of X G n_NOT_MORE_THAN_HALF_AGAINST⟩, ⟨_, PySem.W.mg_of X G n_VOTES_FOR⟩, ⟨_, PySem.W.mg_of X G n_VOTES_AGAINST⟩, ⟨_, PySem.W.mg_of X G n_VOTES_NEITHER_WAY⟩⟩
  have F1 := fun_mk (st := sSeats) l1 c1 k1
  have DSeats : Def K mg "seats_are_as_told" sSeats ["seats"] f1 _ := ⟨F1, PySem.W.mg_of X G a1, F1.binds (ps := ["seats"]) fun _ _ _ _ _ _ us hl => match us, hl with | [_], _ => rfl⟩
  have F2 := fun_mk (st := sPairs) l2 c2 k2
  have DPairs : Def K mg "pairs_are_as_told" sPairs ["pairs", "parties"] f2 _ := ⟨F2, PySem.W.mg_of X G a2, F2.binds (ps := ["pairs", "parties"]) fun _ _ _ _ _ _ us hl => match us, hl with | [_, _], _ => rfl⟩
  have F3 := fun_mk (st := sHouse) l3 c3 k3
  have DHouse : Def K mg "house_is_as_told" sHouse ["seats", "likes", "hates"] f3 _ := ⟨F3, PySem.W.mg_of X G a3, F3.binds (ps := ["seats", "likes", "hates"]) fun _ _ _ _ _ _ us hl => match us, hl with | [_, _, _], _ => rfl⟩
  have F4 := fun_mk (st := sHR) l4 c4 k4
  have DHR : Def K mg "house_and_rule_are_as_told" sHR ["r", "seats", "likes", "hates"] f4 _ := ⟨F4, PySem.W.mg_of X G a4, F4.binds (ps := ["r", "seats", "likes", "hates"]) fun _ _ _ _ _ _ us hl => match us, hl with | [_, _, _, _], _ => rfl⟩
  have F5 := fun_mk (st := sIsOf) l5 c5 k5
  have DIsOf : Def K mg "is_of" sIsOf ["party", "s"] f5 _ := ⟨F5, PySem.W.mg_of X G a5, F5.binds (ps := ["party", "s"]) fun _ _ _ _ _ _ us hl => match us, hl with | [_, _], _ => rfl⟩
  have F6 := fun_mk (st := sLikes) l6 c6 k6
  have DLikes : Def K mg "likes_one_of" sLikes ["party", "s", "likes"] f6 _ := ⟨F6, PySem.W.mg_of X G a6, F6.binds (ps := ["party", "s", "likes"]) fun _ _ _ _ _ _ us hl => match us, hl with | [_, _, _], _ => rfl⟩
  have F7 := fun_mk (st := sHates) l7 c7 k7
  have DHates : Def K mg "hates_one_of" sHates ["party", "s", "hates"] f7 _ := ⟨F7, PySem.W.mg_of X G a7, F7.binds (ps := ["party", "s", "hates"]) fun _ _ _ _ _ _ us hl => match us, hl with | [_, _, _], _ => rfl⟩
  have F8 := fun_mk (st := sWay) l8 c8 k8
  have DWay : Def K mg "way_of" sWay ["party", "s", "likes", "hates"] f8 _ := ⟨F8, PySem.W.mg_of X G a8, F8.binds (ps := ["party", "s", "likes", "hates"]) fun _ _ _ _ _ _ us hl => match us, hl with | [_, _, _, _], _ => rfl⟩
  have F9 := fun_mk (st := sVotes) l9 c9 k9
  have DVotes : Def K mg "votes_on" sVotes ["s", "seats", "likes", "hates"] f9 _ := ⟨F9, PySem.W.mg_of X G a9, F9.binds (ps := ["s", "seats", "likes", "hates"]) fun _ _ _ _ _ _ us hl => match us, hl with | [_, _, _, _], _ => rfl⟩
  have F10 := fun_mk (st := sCab) l10 c10 k10
  have DCab : Def K mg "is_cabinet" sCab ["s", "hates"] f10 _ := ⟨F10, PySem.W.mg_of X G a10, F10.binds (ps := ["s", "hates"]) fun _ _ _ _ _ _ us hl => match us, hl with | [_, _], _ => rfl⟩
  have F11 := fun_mk (st := sAsks) l11 c11 k11
  have DAsks : Def K mg "has_what_rule_asks" sAsks ["r", "votes"] f11 _ := ⟨F11, PySem.W.mg_of X G a11, F11.binds (ps := ["r", "votes"]) fun _ _ _ _ _ _ us hl => match us, hl with | [_, _], _ => rfl⟩
  have F12 := fun_mk (st := sStand) l12 c12 k12
  have DStand : Def K mg "is_standing_cabinet" sStand ["r", "s", "seats", "likes", "hates"] f12 _ := ⟨F12, PySem.W.mg_of X G a12, F12.binds (ps := ["r", "s", "seats", "likes", "hates"]) fun _ _ _ _ _ _ us hl => match us, hl with | [_, _, _, _, _], _ => rfl⟩
  have F13 := fun_mk (st := sAll) l13 c13 k13
  have DAll : Def K mg "standing_cabinets" sAll ["r", "seats", "likes", "hates"] f13 _ := ⟨F13, PySem.W.mg_of X G a13, F13.binds (ps := ["r", "seats", "likes", "hates"]) fun _ _ _ _ _ _ us hl => match us, hl with | [_, _, _, _], _ => rfl⟩
  have F14 := fun_mk (st := sTog) l14 c14 k14
  have DTog : Def K mg "together" sTog ["s", "sizes"] f14 _ := ⟨F14, PySem.W.mg_of X G a14, F14.binds (ps := ["s", "sizes"]) fun _ _ _ _ _ _ us hl => match us, hl with | [_, _], _ => rfl⟩
  have F15 := fun_mk (st := sLeast) l15 c15 k15
  have DLeast : Def K mg "least_together" sLeast ["sets", "sizes"] f15 _ := ⟨F15, PySem.W.mg_of X G a15, F15.binds (ps := ["sets", "sizes"]) fun _ _ _ _ _ _ us hl => match us, hl with | [_, _], _ => rfl⟩
  have F16 := fun_mk (st := sSmallest) l16 c16 k16
  exact ⟨PySem.W.fnOf "smallest" "smallest" (defArgs sSmallest) (defBody sSmallest) (defScope sSmallest) .none kV16 dc16 pm16 an16 cd16 ct16, fun s us hu => match us, hu with | [_, _, _, _], _ => .of_eq rfl, fun base _ _ => ok_smallest F16 T DIsOf DLikes DHates DWay DVotes DSeats DPairs DHouse DHR DCab DAsks DStand DAll DTog DLeast⟩
end Cab
open PySem PySem.W PyProof.Rows
set_option maxRecDepth 100000 in
set_option maxHeartbeats 8000000 in
theorem PySem.Challenge.cw_cabinets_s06_smallest_holds : PySem.Challenge.rw_cabinets_s06_smallest.Holds := by
  w_on; k_headS; (case hw => exact ⟨[.int 0, .list [], .list [], .list []], by decide +kernel, by decide +kernel⟩)
  k_fillS
  refine L2.walk_specK (r := PySem.Challenge.rw_cabinets_s06_smallest) (k := 7) (CX := L2.CX0) (ps := ["r", "seats", "likes", "hates"]) (sp := Cab.spSmallest) (by decide +kernel) rfl rfl ⟨rfl, by decide, by decide⟩ (fun w h Y => PySem.W.kIn_of Y) ?F ?S (fun _ _ _ _ z => z)
  case F =>
    intro w mg fa h Y KX G hmg
    refine' Cab.all_mk KX G hmg ?b_len ?b_range ?b_sum ?b_min ?n_NOT_AS_TOLD ?n_NONE_STANDS ?n_MOST_PARTIES ?n_MOST_SEATS ?n_MOST_NUMBERS ?n_MORE_FOR_THAN_AGAINST ?n_MORE_THAN_HALF_FOR ?n_NOT_MORE_THAN_HALF_AGAINST ?n_VOTES_FOR ?n_VOTES_AGAINST ?n_VOTES_NEITHER_WAY ?a1 ?l1 ?c1 ?k1 ?a2 ?l2 ?c2 ?k2 ?a3 ?l3 ?c3 ?k3 ?a4 ?l4 ?c4 ?k4 ?a5 ?l5 ?c5 ?k5 ?a6 ?l6 ?c6 ?k6 ?a7 ?l7 ?c7 ?k7 ?a8 ?l8 ?c8 ?k8 ?a9 ?l9 ?c9 ?k9 ?a10 ?l10 ?c10 ?k10 ?a11 ?l11 ?c11 ?k11 ?a12 ?l12 ?c12 ?k12 ?a13 ?l13 ?c13 ?k13 ?a14 ?l14 ?c14 ?k14 ?a15 ?l15 ?c15 ?k15 ?a16 ?l16 ?c16 ?k16
    (case b_len => k_is)
    (case b_range => k_is)
    (case b_sum => k_is)
    (case b_min => k_is)
    (case n_NOT_AS_TOLD => k_is)
    (case n_NONE_STANDS => k_is)
    (case n_MOST_PARTIES => k_is)
    (case n_MOST_SEATS => k_is)
    (case n_MOST_NUMBERS => k_is)
    (case n_MORE_FOR_THAN_AGAINST => k_is)
    (case n_MORE_THAN_HALF_FOR => k_is)
    (case n_NOT_MORE_THAN_HALF_AGAINST => k_is)
    (case n_VOTES_FOR => k_is)
    (case n_VOTES_AGAINST => k_is)
    (case n_VOTES_NEITHER_WAY => k_is)
    (case a1 => k_is)
    (case l1 => k_is)
    (case c1 => k_is)
    (case k1 => k_is)
    (case a2 => k_is)
    (case l2 => k_is)
    (case c2 => k_is)
    (case k2 => k_is)
    (case a3 => k_is)
    (case l3 => k_is)
    (case c3 => k_is)
    (case k3 => k_is)
    (case a4 => k_is)
    (case l4 => k_is)
    (case c4 => k_is)
    (case k4 => k_is)
    (case a5 => k_is)
    (case l5 => k_is)
    (case c5 => k_is)
    (case k5 => k_is)
    (case a6 => k_is)
    (case l6 => k_is)
    (case c6 => k_is)
    (case k6 => k_is)
    (case a7 => k_is)
    (case l7 => k_is)
    (case c7 => k_is)
    (case k7 => k_is)
    (case a8 => k_is)
    (case l8 => k_is)
    (case c8 => k_is)
    (case k8 => k_is)
    (case a9 => k_is)
    (case l9 => k_is)
    (case c9 => k_is)
    (case k9 => k_is)
    (case a10 => k_is)
    (case l10 => k_is)
    (case c10 => k_is)
    (case k10 => k_is)
    (case a11 => k_is)
    (case l11 => k_is)
    (case c11 => k_is)
    (case k11 => k_is)
    (case a12 => k_is)
    (case l12 => k_is)
    (case c12 => k_is)
    (case k12 => k_is)
    (case a13 => k_is)
    (case l13 => k_is)
    (case c13 => k_is)
    (case k13 => k_is)
    (case a14 => k_is)
    (case l14 => k_is)
    (case c14 => k_is)
    (case k14 => k_is)
    (case a15 => k_is)
    (case l15 => k_is)
    (case c15 => k_is)
    (case k15 => k_is)
    (case a16 => k_is)
    (case l16 => k_is)
    (case c16 => k_is)
    (case k16 => k_is)
  case S =>
    intro K H xs a hO hwi hask hx
    obtain ⟨s, g, l, m, u⟩ := a
    cases hx with
    | cons h1 hx =>
    cases h1
    cases hx with
    | cons h2 hx =>
    cases h2 with
    | lst q2 d2 =>
    cases hx with
    | cons h3 hx =>
    cases h3 with
    | lst q3 d3 =>
    cases hx with
    | cons h4 hx =>
    cases h4 with
    | lst q4 d4 =>
    cases hx
    have e2 := L2.ints_dw g _ d2
    have e3 := L2.ints_dw l _ d3
    have e4 := L2.ints_dw m _ d4
    subst e2 e3 e4
    have z : (Codec.inInt 0 4294967295 s && ((Codec.inLen 0 10 g && g.all (Codec.inInt 0 4294967295)) && ((Codec.inLen 0 44 l && l.all (Codec.inInt 0 4294967295)) && ((Codec.inLen 0 44 m && m.all (Codec.inInt 0 4294967295)) && true)))) = true := hwi
    obtain ⟨z1, z⟩ := Bool.and_eq_true_iff.mp z
    obtain ⟨z2, z⟩ := Bool.and_eq_true_iff.mp z
    obtain ⟨z3, z⟩ := Bool.and_eq_true_iff.mp z
    obtain ⟨z4, z⟩ := Bool.and_eq_true_iff.mp z
    have b1 := (Codec.inInt_iff.mp z1).1
    obtain ⟨n2, b2⟩ := Cab.within_ints z2
    obtain ⟨n3, b3⟩ := Cab.within_ints z3
    obtain ⟨n4, b4⟩ := Cab.within_ints z4
    rw [Cab.ints_nats b2] at q2
    rw [Cab.ints_nats b3] at q3
    rw [Cab.ints_nats b4] at q4
    refine ⟨_, _, _, s.toNat, g.map Int.toNat, l.map Int.toNat, m.map Int.toNat, by rw [Int.toNat_of_nonneg b1], q2, q3, q4, by rw [List.length_map]; exact n2, by rw [List.length_map]; exact n3, by rw [List.length_map]; exact n4, fun H' p hp => ?_⟩
    exact .lst (L2.SqL.of hp) (L2.dw_ints _)
#print axioms PySem.Challenge.cw_cabinets_s06_smallest_holds
