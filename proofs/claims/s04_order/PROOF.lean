import PyProof.Rows.All
import Wide.All
import OpenK.AllK
import Wide.FinOn
import Open.SpecLaws
import KE.OsGo
import HandS.ForSpec
import HandS.Iter
import HandS.Wide
import HandS.More
import PySem.Challenge.RW_unwantedmail_s04_order
set_option Elab.async false
set_option maxRecDepth 100000
set_option maxHeartbeats 2000000
namespace Um
/-! the letters of the desk: every second item, the weight of one side, whether a letter is in range -/
def evens {α : Type} : List α → List α
  | a :: _ :: r => a :: evens r
  | [a] => [a]
  | [] => []
def odds {α : Type} : List α → List α
  | _ :: b :: r => b :: odds r
  | _ => []
theorem evens_map {α β : Type} (f : α → β) : ∀ l : List α, evens (l.map f) = (evens l).map f
  | a :: b :: r => by
    show f a :: evens (r.map f) = f a :: (evens r).map f
    rw [evens_map f r]
  | [a] => rfl
  | [] => rfl
theorem odds_map {α β : Type} (f : α → β) : ∀ l : List α, odds (l.map f) = (odds l).map f
  | a :: b :: r => by
    show f b :: odds (r.map f) = f b :: (odds r).map f
    rw [odds_map f r]
  | [a] => rfl
  | [] => rfl
theorem evens_len {α : Type} : ∀ l : List α, (evens l).length = (l.length + 1) / 2
  | a :: b :: r => by
    show (evens r).length + 1 = (r.length + 1 + 1 + 1) / 2
    rw [evens_len r]
    omega
  | [a] => by simp [evens]
  | [] => by simp [evens]
theorem odds_len {α : Type} : ∀ l : List α, (odds l).length = l.length / 2
  | a :: b :: r => by
    show (odds r).length + 1 = (r.length + 1 + 1) / 2
    rw [odds_len r]
    omega
  | [a] => by simp [odds]
  | [] => by simp [odds]
theorem evens_mem {α : Type} {x : α} : ∀ {l : List α}, x ∈ evens l → x ∈ l
  | a :: b :: r, h => by
    rcases List.mem_cons.mp (show x ∈ a :: evens r from h) with e | e
    · rw [e]
      exact List.mem_cons_self ..
    · exact List.mem_cons_of_mem _ (List.mem_cons_of_mem _ (evens_mem e))
  | [a], h => h
  | [], h => h
theorem odds_mem {α : Type} {x : α} : ∀ {l : List α}, x ∈ odds l → x ∈ l
  | a :: b :: r, h => by
    rcases List.mem_cons.mp (show x ∈ b :: odds r from h) with e | e
    · rw [e]
      exact List.mem_cons_of_mem _ (List.mem_cons_self ..)
    · exact List.mem_cons_of_mem _ (List.mem_cons_of_mem _ (odds_mem e))
  | [a], h => absurd h (by simp [odds])
  | [], h => absurd h (by simp [odds])
/-- the weight of one side -/
def wgt (own other : Int) (ws : List Int) : Int := ws.foldl (fun p x => p * (x + 1) * (other + 2)) (own + 1)
/-- each word within what was taught -/
def within (n m : Int) : List Int → Bool
  | a :: b :: r => decide (a ≤ n) && (decide (b ≤ m) && within n m r)
  | _ => true
def letter (n m : Int) (l : List Int) : Bool := decide (n ≤ 10000) && (decide (m ≤ 10000) && (decide (l.length % 2 = 0) && (decide (l.length ≤ 80) && within n m l)))
/-! the specification's side -/
theorem seen_len : ∀ l : List Nat, (Kys2.seen l).length = l.length / 2
  | a :: b :: r => by
    show (Kys2.seen r).length + 1 = (r.length + 1 + 1) / 2
    rw [seen_len r]
    omega
  | [a] => by simp [Kys2.seen]
  | [] => by simp [Kys2.seen]
theorem le_toNat {a n : Int} (ha : 0 ≤ a) (hn : 0 ≤ n) : (a.toNat ≤ n.toNat) ↔ a ≤ n := by omega
theorem all_within {n m : Int} (hn : 0 ≤ n) (hm : 0 ≤ m) : ∀ l : List Int, (∀ x ∈ l, 0 ≤ x) → ((Kys2.seen (Kys2Neutral.natsOf l)).all fun x => decide (x.a ≤ n.toNat) && decide (x.b ≤ m.toNat)) = within n m l
  | a :: b :: r, h => by
    have ha := h a (List.mem_cons_self ..)
    have hb := h b (List.mem_cons_of_mem _ (List.mem_cons_self ..))
    have ih := all_within hn hm r fun x hx => h x (List.mem_cons_of_mem _ (List.mem_cons_of_mem _ hx))
    show ((decide (a.toNat ≤ n.toNat) && decide (b.toNat ≤ m.toNat)) && ((Kys2.seen (Kys2Neutral.natsOf r)).all fun x => decide (x.a ≤ n.toNat) && decide (x.b ≤ m.toNat))) = (decide (a ≤ n) && (decide (b ≤ m) && within n m r))
    rw [ih, Bool.and_assoc, decide_eq_decide.mpr (le_toNat ha hn), decide_eq_decide.mpr (le_toNat hb hm)]
  | [a], _ => rfl
  | [], _ => rfl
theorem nats_len (l : List Int) : (Kys2Neutral.natsOf l).length = l.length := List.length_map ..
theorem good_letter {n m : Int} (hn : 0 ≤ n) (hm : 0 ≤ m) {l : List Int} (h : ∀ x ∈ l, 0 ≤ x) : Kys2.good n.toNat m.toNat (Kys2Neutral.natsOf l) = letter n m l := by
  unfold Kys2.good Kys2.ok letter
  rw [all_within hn hm l h, seen_len, nats_len]
  have e1 : decide (n.toNat ≤ 10000) = decide (n ≤ 10000) := decide_eq_decide.mpr (by omega)
  have e2 : decide (m.toNat ≤ 10000) = decide (m ≤ 10000) := decide_eq_decide.mpr (by omega)
  rw [e1, e2]
  by_cases h2 : l.length % 2 = 0
  · have e3 : decide (l.length / 2 ≤ 40) = decide (l.length ≤ 80) := decide_eq_decide.mpr (by omega)
    rw [e3]
    cases decide (n ≤ 10000) <;> cases decide (m ≤ 10000) <;> cases decide (l.length % 2 = 0) <;> cases decide (l.length ≤ 80) <;> rfl
  · rw [decide_eq_false h2]
    cases decide (n ≤ 10000) <;> cases decide (m ≤ 10000) <;> rfl
theorem foldl_mul (ws : List Nat) : ∀ k : Nat, ws.foldl (· * ·) k = k * Kys2.prod ws := by
  induction ws with
  | nil => intro k; exact (Nat.mul_one k).symm
  | cons x r ih =>
    intro k
    have e1 : Kys2.prod (x :: r) = r.foldl (· * ·) (1 * x) := rfl
    rw [e1, ih (1 * x)]
    show r.foldl (· * ·) (k * x) = _
    rw [ih (k * x), Nat.one_mul, Nat.mul_assoc]
theorem wgt_fold (other : Int) (ho : 0 ≤ other) : ∀ (ws : List Int) (k : Nat), (∀ x ∈ ws, 0 ≤ x) → ws.foldl (fun p x => p * (x + 1) * (other + 2)) (k : Int) = ((k * Kys2.prod (ws.map fun x => (x.toNat + 1) * (other.toNat + 2)) : Nat) : Int)
  | [], k, _ => by
    show (k : Int) = ((k * 1 : Nat) : Int)
    rw [Nat.mul_one]
  | x :: r, k, h => by
    have hx := h x (List.mem_cons_self ..)
    have e : (k : Int) * (x + 1) * (other + 2) = ((k * ((x.toNat + 1) * (other.toNat + 2)) : Nat) : Int) := by
      rw [Int.natCast_mul, Int.natCast_mul, Int.natCast_add, Int.natCast_add, Int.toNat_of_nonneg hx, Int.toNat_of_nonneg ho, Int.mul_assoc]
      rfl
    show r.foldl (fun p x => p * (x + 1) * (other + 2)) ((k : Int) * (x + 1) * (other + 2)) = _
    rw [e, wgt_fold other ho r _ fun y hy => h y (List.mem_cons_of_mem _ hy)]
    have e1 : Kys2.prod ((x :: r).map fun x => (x.toNat + 1) * (other.toNat + 2)) = (r.map fun x => (x.toNat + 1) * (other.toNat + 2)).foldl (· * ·) (1 * ((x.toNat + 1) * (other.toNat + 2))) := rfl
    rw [e1, foldl_mul, Nat.one_mul, Nat.mul_assoc]
theorem wgt_nat {own other : Int} (h0 : 0 ≤ own) (h1 : 0 ≤ other) {ws : List Int} (h : ∀ x ∈ ws, 0 ≤ x) : wgt own other ws = (((own.toNat + 1) * Kys2.prod (ws.map fun x => (x.toNat + 1) * (other.toNat + 2)) : Nat) : Int) := by
  unfold wgt
  have e : own + 1 = ((own.toNat + 1 : Nat) : Int) := by omega
  rw [e]
  exact wgt_fold other h1 ws _ h
theorem seen_evens (g : Nat → Nat) : ∀ l : List Int, l.length % 2 = 0 → ((Kys2.seen (Kys2Neutral.natsOf l)).map fun x => g x.a) = (evens l).map fun x => g x.toNat
  | a :: b :: r, h => by
    show g a.toNat :: ((Kys2.seen (Kys2Neutral.natsOf r)).map fun x => g x.a) = g a.toNat :: (evens r).map fun x => g x.toNat
    rw [seen_evens g r (by simp only [List.length_cons] at h; omega)]
  | [a], h => absurd h (by simp)
  | [], _ => rfl
theorem seen_odds (g : Nat → Nat) : ∀ l : List Int, ((Kys2.seen (Kys2Neutral.natsOf l)).map fun x => g x.b) = (odds l).map fun x => g x.toNat
  | a :: b :: r => by
    show g b.toNat :: ((Kys2.seen (Kys2Neutral.natsOf r)).map fun x => g x.b) = g b.toNat :: (odds r).map fun x => g x.toNat
    rw [seen_odds g r]
  | [a] => rfl
  | [] => rfl
theorem wanted_is {n m : Int} (hn : 0 ≤ n) (hm : 0 ≤ m) {l : List Int} (h : ∀ x ∈ l, 0 ≤ x) (h2 : l.length % 2 = 0) : ((Kys2.wanted n.toNat m.toNat (Kys2.seen (Kys2Neutral.natsOf l)) : Nat) : Int) = wgt n m (evens l) := by
  rw [wgt_nat hn hm fun x hx => h x (evens_mem hx)]
  unfold Kys2.wanted
  rw [seen_evens (fun a => (a + 1) * (m.toNat + 2)) l h2]
theorem unwanted_is {n m : Int} (hn : 0 ≤ n) (hm : 0 ≤ m) {l : List Int} (h : ∀ x ∈ l, 0 ≤ x) : ((Kys2.unwanted n.toNat m.toNat (Kys2.seen (Kys2Neutral.natsOf l)) : Nat) : Int) = wgt m n (odds l) := by
  rw [wgt_nat hm hn fun x hx => h x (odds_mem hx)]
  unfold Kys2.unwanted
  rw [seen_odds (fun a => (a + 1) * (n.toNat + 2)) l]
theorem letter_even {n m : Int} {l : List Int} (h : letter n m l = true) : l.length % 2 = 0 := by
  unfold letter at h
  simp only [Bool.and_eq_true, decide_eq_true_eq] at h
  exact h.2.2.1
/-- chance, as the program says it -/
def chance (n m : Int) (l : List Int) : List Int := if letter n m l = true then [wgt m n (odds l) * 1000 / (wgt n m (evens l) + wgt m n (odds l))] else [-22]
theorem chance_is {n m : Int} (hn : 0 ≤ n) (hm : 0 ≤ m) {l : List Int} (h : ∀ x ∈ l, 0 ≤ x) : PyKys2.chance n m l = chance n m l := by
  have e : PyKys2.chance n m l = (fun a : Kys1.Ans => a.value :: Kys2Neutral.ints a.nums) (if Kys2.good n.toNat m.toNat (Kys2Neutral.natsOf l) = false then Kys1.say (-22) else Kys1.say (Kys2.chance n.toNat m.toNat (Kys2.seen (Kys2Neutral.natsOf l)) : Nat)) := rfl
  rw [e]
  unfold chance
  rw [good_letter hn hm h]
  cases c : letter n m l with
  | false => rfl
  | true =>
    have h2 := letter_even c
    show [((Kys2.chance n.toNat m.toNat (Kys2.seen (Kys2Neutral.natsOf l)) : Nat) : Int)] = [_]
    unfold Kys2.chance
    rw [Int.natCast_ediv, Int.natCast_mul, Int.natCast_add, wanted_is hn hm h h2, unwanted_is hn hm h, Int.mul_comm]
    rfl
/-! how large the weights are -/
theorem mul_bits {i j : Int} {a b : Nat} (ha : i.natAbs < 2 ^ a) (hb : j.natAbs < 2 ^ b) : (i * j).natAbs < 2 ^ (a + b) := by
  rw [Int.natAbs_mul, Nat.pow_add]
  exact Nat.mul_lt_mul'' ha hb
theorem take_more {α : Type} : ∀ {l : List α} {i : Nat} {x : α}, l[i]? = some x → l.take (i + 1) = l.take i ++ [x]
  | [], i, x, h => by simp at h
  | a :: l, 0, x, h => by
    have e : a = x := Option.some.inj h
    subst e
    rfl
  | a :: l, i + 1, x, h => by
    have ih := take_more (l := l) (i := i) (x := x) h
    show a :: l.take (i + 1) = a :: l.take i ++ [x]
    rw [ih]
    rfl
theorem wgt_more {own other : Int} {ws : List Int} {i : Nat} {x : Int} (h : ws[i]? = some x) : wgt own other (ws.take (i + 1)) = wgt own other (ws.take i) * (x + 1) * (other + 2) := by
  unfold wgt
  rw [take_more h, List.foldl_append]
  rfl
theorem wgt_pos {own other : Int} (h0 : 0 ≤ own) (h1 : 0 ≤ other) {ws : List Int} (h : ∀ x ∈ ws, 0 ≤ x) : 0 < wgt own other ws := by
  rw [wgt_nat h0 h1 h]
  refine Int.natCast_pos.mpr (Nat.mul_pos (by omega) ?_)
  clear h
  induction ws with
  | nil => exact Nat.one_pos
  | cons x r ih =>
    have e1 : Kys2.prod ((x :: r).map fun x => (x.toNat + 1) * (other.toNat + 2)) = (r.map fun x => (x.toNat + 1) * (other.toNat + 2)).foldl (· * ·) (1 * ((x.toNat + 1) * (other.toNat + 2))) := rfl
    rw [e1, foldl_mul, Nat.one_mul]
    exact Nat.mul_pos (Nat.mul_pos (by omega) (by omega)) ih
/-- fourteen bits each -/
theorem wgt_bits {own other : Int} (h0 : 0 ≤ own) (h0' : own ≤ 10000) (h1 : 0 ≤ other) (h1' : other ≤ 10000) : ∀ (ws : List Int) (k : Int) (b : Nat), k.natAbs < 2 ^ b → (∀ x ∈ ws, 0 ≤ x ∧ x ≤ 10000) → (ws.foldl (fun p x => p * (x + 1) * (other + 2)) k).natAbs < 2 ^ (b + 28 * ws.length)
  | [], k, b, hk, _ => hk
  | x :: r, k, b, hk, h => by
    have hx := h x (List.mem_cons_self ..)
    have e1 : (x + 1).natAbs < 2 ^ 14 := by omega
    have e2 : (other + 2).natAbs < 2 ^ 14 := by omega
    have e3 := mul_bits (mul_bits hk e1) e2
    have ih := wgt_bits h0 h0' h1 h1' r _ _ e3 fun y hy => h y (List.mem_cons_of_mem _ hy)
    have e4 : b + 14 + 14 + 28 * r.length = b + 28 * (x :: r).length := by
      rw [List.length_cons]
      omega
    rw [e4] at ih
    exact ih
set_option exponentiation.threshold 2000 in
theorem wgt_size {own other : Int} (h0 : 0 ≤ own) (h0' : own ≤ 10000) (h1 : 0 ≤ other) (h1' : other ≤ 10000) {ws : List Int} (h : ∀ x ∈ ws, 0 ≤ x ∧ x ≤ 10000) (hl : ws.length ≤ 40) : (wgt own other ws).natAbs < 2 ^ 1134 := by
  have e := wgt_bits h0 h0' h1 h1' ws (own + 1) 14 (by omega) h
  refine Nat.lt_of_lt_of_le e (Nat.pow_le_pow_right (by decide) ?_)
  omega
/-- what a letter's numbers are -/
theorem within_mem {n m : Int} : ∀ {l : List Int}, l.length % 2 = 0 → within n m l = true → (∀ x ∈ evens l, x ≤ n) ∧ ∀ x ∈ odds l, x ≤ m
  | a :: b :: r, h2, h => by
    have h' : (decide (a ≤ n) && (decide (b ≤ m) && within n m r)) = true := h
    simp only [Bool.and_eq_true, decide_eq_true_eq] at h'
    obtain ⟨p, q⟩ := within_mem (l := r) (by simp only [List.length_cons] at h2; omega) h'.2.2
    refine ⟨fun x hx => ?_, fun x hx => ?_⟩
    · rcases List.mem_cons.mp (show x ∈ a :: evens r from hx) with e | e
      · rw [e]
        exact h'.1
      · exact p x e
    · rcases List.mem_cons.mp (show x ∈ b :: odds r from hx) with e | e
      · rw [e]
        exact h'.2.1
      · exact q x e
  | [a], h2, _ => absurd h2 (by simp)
  | [], _, _ => ⟨fun x hx => absurd hx (by simp [evens]), fun x hx => absurd hx (by simp [odds])⟩
/-- within, behind i words: the loop's own words -/
theorem within_step {n m : Int} : ∀ (l : List Int) (i : Nat), 2 * i + 1 < l.length → ∃ a b, l[2 * i]? = some a ∧ l[2 * i + 1]? = some b ∧ within n m (l.drop (2 * i)) = (decide (a ≤ n) && (decide (b ≤ m) && within n m (l.drop (2 * (i + 1)))))
  | a :: b :: r, 0, _ => ⟨a, b, rfl, rfl, rfl⟩
  | a :: b :: r, i + 1, h => by
    obtain ⟨x, y, e1, e2, e3⟩ := within_step (n := n) (m := m) r i (by simp only [List.length_cons] at h; omega)
    refine ⟨x, y, ?_, ?_, ?_⟩
    · show (a :: b :: r)[2 * i + 1 + 1]? = some x
      rw [List.getElem?_cons_succ, List.getElem?_cons_succ, e1]
    · show (a :: b :: r)[2 * i + 1 + 1 + 1]? = some y
      rw [List.getElem?_cons_succ, List.getElem?_cons_succ, e2]
    · exact e3
  | [a], i, h => absurd h (by simp only [List.length_cons, List.length_nil]; omega)
  | [], i, h => absurd h (by simp only [List.length_nil]; omega)
theorem pick_even {α : Type} : ∀ l : List α, ((List.range ((l.length + 1) / 2)).filterMap fun k => l[2 * k]?) = evens l
  | a :: b :: r => by
    have e : ((a :: b :: r).length + 1) / 2 = (r.length + 1) / 2 + 1 := by
      simp only [List.length_cons]
      omega
    rw [e, List.range_succ_eq_map, List.filterMap_cons, List.filterMap_map]
    show a :: ((List.range ((r.length + 1) / 2)).filterMap fun k => (a :: b :: r)[2 * (k + 1)]?) = a :: evens r
    rw [← pick_even r]
    congr 1
  | [a] => by simp [evens]
  | [] => by simp [evens]
theorem pick_odd {α : Type} : ∀ l : List α, ((List.range (l.length / 2)).filterMap fun k => l[2 * k + 1]?) = odds l
  | a :: b :: r => by
    have e : (a :: b :: r).length / 2 = r.length / 2 + 1 := by
      simp only [List.length_cons]
      omega
    rw [e, List.range_succ_eq_map, List.filterMap_cons, List.filterMap_map]
    show b :: ((List.range (r.length / 2)).filterMap fun k => (a :: b :: r)[2 * (k + 1) + 1]?) = b :: odds r
    rw [← pick_odd r]
    congr 1
  | [a] => by simp [odds]
  | [] => by simp [odds]
/-! told, says, order, as a program says them -/
def told (t n m : Int) (l : List Int) : List Int := if 1 ≤ t ∧ t ≤ 1000 ∧ letter n m l = true then (if t * wgt n m (evens l) ≤ wgt m n (odds l) then [2] else if wgt n m (evens l) < wgt m n (odds l) then [1] else [0]) else [-22]
theorem told_is {t n m : Int} (ht : 0 ≤ t) (hn : 0 ≤ n) (hm : 0 ≤ m) {l : List Int} (h : ∀ x ∈ l, 0 ≤ x) : PyKys2.told t n m l = told t n m l := by
  have e : PyKys2.told t n m l = (fun a : Kys1.Ans => a.value :: Kys2Neutral.ints a.nums) (if t.toNat < 1 ∨ 1000 < t.toNat ∨ Kys2.good n.toNat m.toNat (Kys2Neutral.natsOf l) = false then Kys1.say (-22) else Kys1.say (Kys2.told t.toNat n.toNat m.toNat (Kys2.seen (Kys2Neutral.natsOf l)) : Nat)) := rfl
  rw [e]
  unfold told
  rw [good_letter hn hm h]
  by_cases c : 1 ≤ t ∧ t ≤ 1000 ∧ letter n m l = true
  · have c2 : ¬ (t.toNat < 1 ∨ 1000 < t.toNat ∨ letter n m l = false) := by
      rintro (z | z | z)
      · omega
      · omega
      · rw [c.2.2] at z
        cases z
    rw [if_pos c, if_neg c2]
    have h2 := letter_even c.2.2
    show [((Kys2.told t.toNat n.toNat m.toNat (Kys2.seen (Kys2Neutral.natsOf l)) : Nat) : Int)] = _
    unfold Kys2.told
    have eW := wanted_is hn hm h h2
    have eU := unwanted_is hn hm h
    have i1 : (t.toNat * Kys2.wanted n.toNat m.toNat (Kys2.seen (Kys2Neutral.natsOf l)) ≤ Kys2.unwanted n.toNat m.toNat (Kys2.seen (Kys2Neutral.natsOf l))) ↔ t * wgt n m (evens l) ≤ wgt m n (odds l) := by
      rw [← eW, ← eU, ← Int.ofNat_le, Int.natCast_mul, Int.toNat_of_nonneg ht]
    have i2 : (Kys2.wanted n.toNat m.toNat (Kys2.seen (Kys2Neutral.natsOf l)) < Kys2.unwanted n.toNat m.toNat (Kys2.seen (Kys2Neutral.natsOf l))) ↔ wgt n m (evens l) < wgt m n (odds l) := by
      rw [← eW, ← eU, ← Int.ofNat_lt]
    by_cases d1 : t * wgt n m (evens l) ≤ wgt m n (odds l)
    · rw [if_pos d1, if_pos (i1.mpr d1)]
      rfl
    · rw [if_neg d1, if_neg fun z => d1 (i1.mp z)]
      by_cases d2 : wgt n m (evens l) < wgt m n (odds l)
      · rw [if_pos d2, if_pos (i2.mpr d2)]
        rfl
      · rw [if_neg d2, if_neg fun z => d2 (i2.mp z)]
        rfl
  · have c2 : t.toNat < 1 ∨ 1000 < t.toNat ∨ letter n m l = false := by
      cases d : letter n m l with
      | false => exact .inr (.inr rfl)
      | true =>
        rw [d] at c
        have c3 : ¬ (1 ≤ t ∧ t ≤ 1000) := fun z => c ⟨z.1, z.2, rfl⟩
        omega
    rw [if_neg c, if_pos c2]
    rfl
def says (n m a b : Int) : List Int := if letter n m [a, b] = true then (if (a + 1) * (m + 2) < (b + 1) * (n + 2) then [2] else if (b + 1) * (n + 2) < (a + 1) * (m + 2) then [1] else [0]) else [-22]
theorem says_is {n m a b : Int} (hn : 0 ≤ n) (hm : 0 ≤ m) (ha : 0 ≤ a) (hb : 0 ≤ b) : PyKys2.says n m a b = says n m a b := by
  have e : PyKys2.says n m a b = (fun a : Kys1.Ans => a.value :: Kys2Neutral.ints a.nums) (if Kys2.good n.toNat m.toNat (Kys2Neutral.natsOf [a, b]) = false then Kys1.say (-22) else Kys1.say (Kys2.says n.toNat m.toNat ⟨a.toNat, b.toNat⟩ : Nat)) := rfl
  rw [e, good_letter hn hm (by
    intro x hx
    rcases List.mem_cons.mp hx with e | hx
    · omega
    · have e := List.mem_singleton.mp hx
      omega)]
  unfold says
  cases c : letter n m [a, b] with
  | false => rfl
  | true =>
    show [((Kys2.says n.toNat m.toNat ⟨a.toNat, b.toNat⟩ : Nat) : Int)] = (if (a + 1) * (m + 2) < (b + 1) * (n + 2) then [2] else if (b + 1) * (n + 2) < (a + 1) * (m + 2) then [1] else [0])
    unfold Kys2.says Kys2.forA Kys2.forB
    have e1 : (((a.toNat + 1) * (m.toNat + 2) : Nat) : Int) = (a + 1) * (m + 2) := by
      rw [Int.natCast_mul, Int.natCast_add, Int.natCast_add, Int.toNat_of_nonneg ha, Int.toNat_of_nonneg hm]
      rfl
    have e2 : (((b.toNat + 1) * (n.toNat + 2) : Nat) : Int) = (b + 1) * (n + 2) := by
      rw [Int.natCast_mul, Int.natCast_add, Int.natCast_add, Int.toNat_of_nonneg hb, Int.toNat_of_nonneg hn]
      rfl
    have i1 : ((a.toNat + 1) * (m.toNat + 2) < (b.toNat + 1) * (n.toNat + 2)) ↔ (a + 1) * (m + 2) < (b + 1) * (n + 2) := by
      rw [← e1, ← e2, Int.ofNat_lt]
    have i2 : ((b.toNat + 1) * (n.toNat + 2) < (a.toNat + 1) * (m.toNat + 2)) ↔ (b + 1) * (n + 2) < (a + 1) * (m + 2) := by
      rw [← e1, ← e2, Int.ofNat_lt]
    by_cases d1 : (a + 1) * (m + 2) < (b + 1) * (n + 2)
    · rw [if_pos d1]
      show [(((if (a.toNat + 1) * (m.toNat + 2) < (b.toNat + 1) * (n.toNat + 2) then 2 else if (b.toNat + 1) * (n.toNat + 2) < (a.toNat + 1) * (m.toNat + 2) then 1 else 0) : Nat) : Int)] = [2]
      rw [if_pos (i1.mpr d1)]
      rfl
    · rw [if_neg d1]
      show [(((if (a.toNat + 1) * (m.toNat + 2) < (b.toNat + 1) * (n.toNat + 2) then 2 else if (b.toNat + 1) * (n.toNat + 2) < (a.toNat + 1) * (m.toNat + 2) then 1 else 0) : Nat) : Int)] = _
      rw [if_neg fun z => d1 (i1.mp z)]
      by_cases d2 : (b + 1) * (n + 2) < (a + 1) * (m + 2)
      · rw [if_pos d2, if_pos (i2.mpr d2)]
        rfl
      · rw [if_neg d2, if_neg fun z => d2 (i2.mp z)]
        rfl
theorem order_at {l : List Int} (h : ∀ x ∈ l, 0 ≤ x) : PyKys2.order l = if letter 10000 10000 l = true then (((Kys2.order (Kys2.seen (Kys2Neutral.natsOf l))).length : Nat) : Int) :: Kys2Neutral.ints (Kys2.order (Kys2.seen (Kys2Neutral.natsOf l))) else [-22] := by
  have e : PyKys2.order l = (fun a : Kys1.Ans => a.value :: Kys2Neutral.ints a.nums) (if Kys2.good 10000 10000 (Kys2Neutral.natsOf l) = false then Kys1.say (-22) else ⟨((Kys2.order (Kys2.seen (Kys2Neutral.natsOf l))).length : Nat), Kys2.order (Kys2.seen (Kys2Neutral.natsOf l))⟩) := rfl
  have g : Kys2.good 10000 10000 (Kys2Neutral.natsOf l) = letter 10000 10000 l := good_letter (n := 10000) (m := 10000) (by decide) (by decide) h
  rw [e, g]
  cases c : letter 10000 10000 l with
  | false => rfl
  | true => rfl
end Um

namespace Um
open Kys2 (Seen)
/-! order: whatever list holds each place once, each ahead of all behind it, is the specification's -/
/-- which of two is ahead, in numbers -/
theorem ahead_iff (l : List Seen) (i j : Nat) : Kys2.ahead l i j = true ↔
    (((l.getD j ⟨0, 0⟩).b + 1) * ((l.getD i ⟨0, 0⟩).a + 1) < ((l.getD i ⟨0, 0⟩).b + 1) * ((l.getD j ⟨0, 0⟩).a + 1) ∨
      (((l.getD j ⟨0, 0⟩).b + 1) * ((l.getD i ⟨0, 0⟩).a + 1) = ((l.getD i ⟨0, 0⟩).b + 1) * ((l.getD j ⟨0, 0⟩).a + 1) ∧ i < j)) := by
  unfold Kys2.ahead Kys2.louder
  simp only [Bool.or_eq_true, Bool.and_eq_true, Bool.not_eq_true', decide_eq_true_eq, decide_eq_false_iff_not]
  generalize ((l.getD j ⟨0, 0⟩).b + 1) * ((l.getD i ⟨0, 0⟩).a + 1) = x
  generalize ((l.getD i ⟨0, 0⟩).b + 1) * ((l.getD j ⟨0, 0⟩).a + 1) = y
  omega
theorem ahead_asymm (l : List Seen) (i j : Nat) (h : Kys2.ahead l i j = true) : Kys2.ahead l j i = false := by
  cases c : Kys2.ahead l j i with
  | false => rfl
  | true =>
    rw [ahead_iff] at h c
    omega
theorem ahead_irrefl (l : List Seen) (i : Nat) : Kys2.ahead l i i = false := by
  cases c : Kys2.ahead l i i with
  | false => rfl
  | true =>
    have e := ahead_asymm l i i c
    rw [c] at e
    cases e
/-- how many of L are ahead of the one at place k: k -/
theorem rank_at {R : Nat → Nat → Bool} (as : ∀ i j, R i j = true → R j i = false) (ir : ∀ i, R i i = false) : ∀ (L : List Nat), L.Pairwise (fun i j => R i j = true) → ∀ (k : Nat) (x : Nat), L[k]? = some x → (L.filter fun j => R j x).length = k
  | [], _, k, x, h => by simp at h
  | y :: r, hp, 0, x, h => by
    have e : y = x := Option.some.inj h
    subst e
    rw [List.pairwise_cons] at hp
    rw [List.filter_cons_of_neg (by rw [ir]; exact Bool.false_ne_true), List.filter_eq_nil_iff.mpr, List.length_nil]
    intro z hz
    rw [as y z (hp.1 z hz)]
    exact Bool.false_ne_true
  | y :: r, hp, k + 1, x, h => by
    rw [List.pairwise_cons] at hp
    have hx : r[k]? = some x := h
    rw [List.filter_cons_of_pos (p := fun j => R j x) (hp.1 x (List.mem_of_getElem? hx)), List.length_cons, rank_at as ir r hp.2 k x hx]
theorem nodup_of {R : Nat → Nat → Bool} (ir : ∀ i, R i i = false) {L : List Nat} (h : L.Pairwise (fun i j => R i j = true)) : L.Nodup := by
  refine List.Pairwise.imp ?_ h
  intro a b hab e
  subst e
  rw [ir] at hab
  cases hab
theorem filter_one {p : Nat → Bool} {x : Nat} : ∀ {L : List Nat}, L.Nodup → x ∈ L → (∀ y ∈ L, p y = true ↔ y = x) → L.filter p = [x]
  | [], _, hx, _ => absurd hx (by simp)
  | y :: r, hn, hx, hp => by
    rw [List.nodup_cons] at hn
    by_cases c : y = x
    · subst c
      rw [List.filter_cons_of_pos ((hp y (List.mem_cons_self ..)).mpr rfl)]
      have e : r.filter p = [] := by
        rw [List.filter_eq_nil_iff]
        intro z hz hpz
        have ez := (hp z (List.mem_cons_of_mem _ hz)).mp hpz
        subst ez
        exact hn.1 hz
      rw [e]
    · have c2 : ¬ p y = true := fun z => c ((hp y (List.mem_cons_self ..)).mp z)
      rw [List.filter_cons_of_neg c2]
      rcases List.mem_cons.mp hx with e | e
      · exact absurd e.symm c
      · exact filter_one hn.2 e fun z hz => hp z (List.mem_cons_of_mem _ hz)
theorem flat_get : ∀ (L : List Nat) (f : Nat → List Nat) (s : Nat), (∀ k x, L[k]? = some x → f (s + k) = [x]) → (List.range' s L.length).flatMap f = L
  | [], _, _, _ => rfl
  | x :: r, f, s, h => by
    rw [List.length_cons, List.range'_succ, List.flatMap_cons, show f s = [x] from h 0 x rfl, flat_get r f (s + 1) fun k y hy => ?_]
    · rfl
    · have e := h (k + 1) y hy
      rw [← e]
      congr 1
      omega
/-- **the one order** -/
theorem order_unique (l : List Seen) (L : List Nat) (hperm : L.Perm (List.range l.length)) (hp : L.Pairwise (fun i j => Kys2.ahead l i j = true)) : Kys2.order l = L := by
  have hlen : L.length = l.length := by rw [hperm.length_eq, List.length_range]
  have hnd := nodup_of (ahead_irrefl l) hp
  unfold Kys2.order
  have rk : ∀ x, ((List.range l.length).filter fun j => Kys2.ahead l j x).length = (L.filter fun j => Kys2.ahead l j x).length := fun x => ((hperm.filter _).length_eq).symm
  have hr : List.range l.length = List.range' 0 L.length := by rw [List.range_eq_range', hlen]
  have main : ∀ k x, L[k]? = some x → ((List.range l.length).filter fun i => ((List.range l.length).filter fun j => Kys2.ahead l j i).length == k) = [x] := fun k x hx => by
    refine filter_one List.nodup_range (hperm.mem_iff.mp (List.mem_of_getElem? hx)) fun y hy => ?_
    rw [beq_iff_eq, rk y]
    obtain ⟨i, hi⟩ := List.getElem?_of_mem (hperm.mem_iff.mpr hy)
    rw [rank_at (ahead_asymm l) (ahead_irrefl l) L hp i y hi]
    constructor
    · intro e
      subst e
      exact Option.some.inj (hi.symm.trans hx)
    · intro e
      subst e
      obtain ⟨h1, e1⟩ := List.getElem?_eq_some_iff.mp hi
      exact (List.getElem?_inj h1 hnd).mp (hi.trans hx.symm)
  have e : (List.range l.length).flatMap (fun k => (List.range l.length).filter fun i => ((List.range l.length).filter fun j => Kys2.ahead l j i).length == k) = (List.range' 0 L.length).flatMap (fun k => (List.range l.length).filter fun i => ((List.range l.length).filter fun j => Kys2.ahead l j i).length == k) := by
    rw [← hr]
  rw [e]
  exact flat_get L _ 0 fun k x hx => by
    rw [Nat.zero_add]
    exact main k x hx
/-- two fractions one after another -/
theorem frac_le {p q p' q' r s : Nat} (hq : 0 < q') (h1 : p' * q ≤ p * q') (h2 : r * q' ≤ p' * s) : r * q ≤ p * s := by
  refine Nat.le_of_mul_le_mul_right ?_ hq
  have a1 : p' * q * s ≤ p * q' * s := Nat.mul_le_mul_right s h1
  have a2 : r * q' * q ≤ p' * s * q := Nat.mul_le_mul_right q h2
  have b1 : r * q * q' = r * q' * q := Nat.mul_right_comm ..
  have b2 : p' * s * q = p' * q * s := Nat.mul_right_comm ..
  have b3 : p * s * q' = p * q' * s := Nat.mul_right_comm ..
  omega
theorem frac_lt1 {p q p' q' r s : Nat} (hs : 0 < s) (h1 : p' * q < p * q') (h2 : r * q' ≤ p' * s) : r * q < p * s := by
  refine Nat.lt_of_mul_lt_mul_right (a := q') ?_
  have a1 : p' * q * s < p * q' * s := Nat.mul_lt_mul_of_pos_right h1 hs
  have a2 : r * q' * q ≤ p' * s * q := Nat.mul_le_mul_right q h2
  have b1 : r * q * q' = r * q' * q := Nat.mul_right_comm ..
  have b2 : p' * s * q = p' * q * s := Nat.mul_right_comm ..
  have b3 : p * s * q' = p * q' * s := Nat.mul_right_comm ..
  omega
theorem frac_lt2 {p q p' q' r s : Nat} (hq : 0 < q) (h1 : p' * q ≤ p * q') (h2 : r * q' < p' * s) : r * q < p * s := by
  refine Nat.lt_of_mul_lt_mul_right (a := q') ?_
  have a1 : p' * q * s ≤ p * q' * s := Nat.mul_le_mul_right s h1
  have a2 : r * q' * q < p' * s * q := Nat.mul_lt_mul_of_pos_right h2 hq
  have b1 : r * q * q' = r * q' * q := Nat.mul_right_comm ..
  have b2 : p' * s * q = p' * q * s := Nat.mul_right_comm ..
  have b3 : p * s * q' = p * q' * s := Nat.mul_right_comm ..
  omega
theorem ahead_trans (l : List Seen) (i j k : Nat) (h1 : Kys2.ahead l i j = true) (h2 : Kys2.ahead l j k = true) : Kys2.ahead l i k = true := by
  rw [ahead_iff] at h1 h2 ⊢
  generalize (l.getD i ⟨0, 0⟩) = x at *
  generalize (l.getD j ⟨0, 0⟩) = y at *
  generalize (l.getD k ⟨0, 0⟩) = z at *
  have g1 : (y.b + 1) * (x.a + 1) ≤ (x.b + 1) * (y.a + 1) := by omega
  have g2 : (z.b + 1) * (y.a + 1) ≤ (y.b + 1) * (z.a + 1) := by omega
  rcases h1 with h1 | ⟨e1, l1⟩
  · exact .inl (frac_lt1 (Nat.succ_pos _) h1 g2)
  · rcases h2 with h2 | ⟨e2, l2⟩
    · exact .inl (frac_lt2 (Nat.succ_pos _) g1 h2)
    · have g3 := frac_le (Nat.succ_pos y.a) g1 g2
      have g4 := frac_le (p := z.b + 1) (q := z.a + 1) (p' := y.b + 1) (q' := y.a + 1) (r := x.b + 1) (s := x.a + 1) (Nat.succ_pos y.a) (by omega) (by omega)
      omega
theorem ahead_total (l : List Seen) (i j : Nat) (h : i ≠ j) : Kys2.ahead l i j = true ∨ Kys2.ahead l j i = true := by
  rw [ahead_iff, ahead_iff]
  omega
end Um

namespace Um
open Kys2 (Seen)
/-! order, as the program says it: each place goes ahead of the first one that it is louder than -/
def louder (l : List Int) (i j : Nat) : Bool := decide ((l.getD (2 * j + 1) 0 + 1) * (l.getD (2 * i) 0 + 1) < (l.getD (2 * i + 1) 0 + 1) * (l.getD (2 * j) 0 + 1))
def rk (l : List Int) (k : Nat) (L : List Nat) : Nat := L.findIdx fun j => louder l k j
def ins (l : List Int) : Nat → List Nat
  | 0 => []
  | i + 1 => (ins l i).take (rk l i (ins l i)) ++ [i] ++ (ins l i).drop (rk l i (ins l i))
theorem ins_len (l : List Int) : ∀ i, (ins l i).length = i
  | 0 => rfl
  | i + 1 => by
    have ih := ins_len l i
    show ((ins l i).take (rk l i (ins l i)) ++ [i] ++ (ins l i).drop (rk l i (ins l i))).length = i + 1
    rw [List.length_append, List.length_append, List.length_take, List.length_drop, List.length_singleton]
    have h : rk l i (ins l i) ≤ (ins l i).length := List.findIdx_le_length
    omega
theorem ins_perm (l : List Int) : ∀ i, (ins l i).Perm (List.range i)
  | 0 => List.Perm.refl _
  | i + 1 => by
    have ih := ins_perm l i
    show ((ins l i).take (rk l i (ins l i)) ++ [i] ++ (ins l i).drop (rk l i (ins l i))).Perm (List.range (i + 1))
    rw [List.range_succ]
    refine List.Perm.trans ?_ (ih.append_right [i])
    refine List.Perm.trans (List.Perm.append_right _ List.perm_append_comm) ?_
    rw [List.append_assoc, List.take_append_drop]
    exact List.perm_append_comm
theorem ins_lt (l : List Int) (i x : Nat) (h : x ∈ ins l i) : x < i := List.mem_range.mp ((ins_perm l i).mem_iff.mp h)
/-- where the words stand in the list -/
theorem seen_get : ∀ (l : List Int) (i : Nat), 2 * i + 1 < l.length → (Kys2.seen (Kys2Neutral.natsOf l)).getD i ⟨0, 0⟩ = ⟨(l.getD (2 * i) 0).toNat, (l.getD (2 * i + 1) 0).toNat⟩
  | a :: b :: r, 0, _ => rfl
  | a :: b :: r, i + 1, h => by
    have ih := seen_get r i (by simp only [List.length_cons] at h; omega)
    show (Kys2.seen (Kys2Neutral.natsOf r)).getD i ⟨0, 0⟩ = ⟨(r.getD (2 * i) 0).toNat, (r.getD (2 * i + 1) 0).toNat⟩
    exact ih
  | [a], i, h => absurd h (by simp only [List.length_cons, List.length_nil]; omega)
  | [], i, h => absurd h (by simp only [List.length_nil]; omega)
theorem getD_nonneg {l : List Int} (h : ∀ x ∈ l, 0 ≤ x) (i : Nat) : 0 ≤ l.getD i 0 := by
  rw [List.getD_eq_getElem?_getD]
  cases e : l[i]? with
  | none => exact Int.le_refl 0
  | some x => exact h x (List.mem_of_getElem? e)
theorem louder_iff {l : List Int} (h : ∀ x ∈ l, 0 ≤ x) {i j : Nat} (hi : 2 * i + 1 < l.length) (hj : 2 * j + 1 < l.length) : louder l i j = true ↔
    (((Kys2.seen (Kys2Neutral.natsOf l)).getD j ⟨0, 0⟩).b + 1) * (((Kys2.seen (Kys2Neutral.natsOf l)).getD i ⟨0, 0⟩).a + 1) < (((Kys2.seen (Kys2Neutral.natsOf l)).getD i ⟨0, 0⟩).b + 1) * (((Kys2.seen (Kys2Neutral.natsOf l)).getD j ⟨0, 0⟩).a + 1) := by
  rw [seen_get l i hi, seen_get l j hj]
  unfold louder
  rw [decide_eq_true_eq]
  have g1 := getD_nonneg h (2 * i)
  have g2 := getD_nonneg h (2 * i + 1)
  have g3 := getD_nonneg h (2 * j)
  have g4 := getD_nonneg h (2 * j + 1)
  generalize l.getD (2 * i) 0 = p at *
  generalize l.getD (2 * i + 1) 0 = q at *
  generalize l.getD (2 * j) 0 = r at *
  generalize l.getD (2 * j + 1) 0 = s at *
  show (s + 1) * (p + 1) < (q + 1) * (r + 1) ↔ (s.toNat + 1) * (p.toNat + 1) < (q.toNat + 1) * (r.toNat + 1)
  have e1 : (((s.toNat + 1) * (p.toNat + 1) : Nat) : Int) = (s + 1) * (p + 1) := by
    rw [Int.natCast_mul, Int.natCast_add, Int.natCast_add, Int.toNat_of_nonneg g4, Int.toNat_of_nonneg g1]
    rfl
  have e2 : (((q.toNat + 1) * (r.toNat + 1) : Nat) : Int) = (q + 1) * (r + 1) := by
    rw [Int.natCast_mul, Int.natCast_add, Int.natCast_add, Int.toNat_of_nonneg g2, Int.toNat_of_nonneg g3]
    rfl
  rw [← e1, ← e2, Int.ofNat_lt]
theorem find_take {p : Nat → Bool} : ∀ {L : List Nat} {x : Nat}, x ∈ L.take (L.findIdx p) → p x = false
  | [], x, h => by simp at h
  | y :: r, x, h => by
    rw [List.findIdx_cons] at h
    cases c : p y with
    | true =>
      rw [c] at h
      simp at h
    | false =>
      rw [c] at h
      rcases List.mem_cons.mp (show x ∈ y :: r.take (r.findIdx p) from h) with e | e
      · rw [e]
        exact c
      · exact find_take e
theorem find_drop {p : Nat → Bool} : ∀ (L : List Nat), L.drop (L.findIdx p) = [] ∨ ∃ x r, L.drop (L.findIdx p) = x :: r ∧ p x = true
  | [] => .inl rfl
  | y :: r => by
    rw [List.findIdx_cons]
    cases c : p y with
    | true => exact .inr ⟨y, r, rfl, c⟩
    | false => exact find_drop r
theorem ins_pairs {l : List Int} (h : ∀ x ∈ l, 0 ≤ x) : ∀ i, 2 * i ≤ l.length → (ins l i).Pairwise (fun i j => Kys2.ahead (Kys2.seen (Kys2Neutral.natsOf l)) i j = true)
  | 0, _ => List.Pairwise.nil
  | i + 1, hi => by
    have ih := ins_pairs h i (by omega)
    show ((ins l i).take (rk l i (ins l i)) ++ [i] ++ (ins l i).drop (rk l i (ins l i))).Pairwise _
    rw [List.append_assoc, List.singleton_append]
    have ha : ∀ y ∈ (ins l i).take (rk l i (ins l i)), Kys2.ahead (Kys2.seen (Kys2Neutral.natsOf l)) y i = true := fun y hy => by
      have c : louder l i y = false := find_take (p := fun j => louder l i j) hy
      have hl : y < i := ins_lt l i y (List.mem_of_mem_take hy)
      have c2 : ¬ louder l i y = true := by
        rw [c]
        exact Bool.false_ne_true
      rw [louder_iff h (by omega) (by omega)] at c2
      rw [ahead_iff]
      omega
    have hb : ∀ y ∈ (ins l i).drop (rk l i (ins l i)), Kys2.ahead (Kys2.seen (Kys2Neutral.natsOf l)) i y = true := fun y hy => by
      rcases find_drop (p := fun j => louder l i j) (ins l i) with e | ⟨x, r, e, c⟩
      · rw [show (ins l i).drop (rk l i (ins l i)) = [] from e] at hy
        exact absurd hy (by simp)
      · have e' : (ins l i).drop (rk l i (ins l i)) = x :: r := e
        have hx : x < i := ins_lt l i x (List.mem_of_mem_drop (by rw [e']; exact List.mem_cons_self ..))
        have c2 : louder l i x = true := c
        rw [louder_iff h (by omega) (by omega)] at c2
        have a1 : Kys2.ahead (Kys2.seen (Kys2Neutral.natsOf l)) i x = true := by
          rw [ahead_iff]
          exact .inl c2
        rw [e'] at hy
        rcases List.mem_cons.mp hy with e2 | e2
        · rw [e2]
          exact a1
        · have hd : (x :: r).Pairwise (fun i j => Kys2.ahead (Kys2.seen (Kys2Neutral.natsOf l)) i j = true) := by
            rw [← e']
            exact List.Pairwise.drop ih
          exact ahead_trans _ i x y a1 ((List.pairwise_cons.mp hd).1 y e2)
    have hab := List.pairwise_append.mp (show ((ins l i).take (rk l i (ins l i)) ++ (ins l i).drop (rk l i (ins l i))).Pairwise _ by rw [List.take_append_drop]; exact ih)
    refine List.pairwise_append.mpr ⟨hab.1, List.pairwise_cons.mpr ⟨hb, hab.2.1⟩, fun x hx y hy => ?_⟩
    rcases List.mem_cons.mp hy with e | e
    · rw [e]
      exact ha x hx
    · exact hab.2.2 x hx y e
/-- **the program's order is the specification's** -/
theorem order_ins {l : List Int} (h : ∀ x ∈ l, 0 ≤ x) : Kys2.order (Kys2.seen (Kys2Neutral.natsOf l)) = ins l (l.length / 2) := by
  have e : (Kys2.seen (Kys2Neutral.natsOf l)).length = l.length / 2 := by rw [seen_len, nats_len]
  refine order_unique _ _ ?_ (ins_pairs h _ (by omega))
  rw [e]
  exact ins_perm l _
def order (l : List Int) : List Int := if letter 10000 10000 l = true then ((l.length / 2 : Nat) : Int) :: (ins l (l.length / 2)).map fun k : Nat => (k : Int) else [-22]
theorem order_is {l : List Int} (h : ∀ x ∈ l, 0 ≤ x) : PyKys2.order l = order l := by
  rw [order_at h, order_ins h, ins_len]
  rfl
/-- the rank, from a place on: the loop's own words -/
theorem rk_step {l : List Int} {k : Nat} : ∀ {L : List Nat} {i x : Nat}, L[i]? = some x → rk l k (L.drop i) = if louder l k x = true then 0 else rk l k (L.drop (i + 1)) + 1
  | [], i, x, h => by simp at h
  | y :: r, 0, x, h => by
    have e : y = x := Option.some.inj h
    subst e
    show List.findIdx (fun j => louder l k j) (y :: r) = _
    rw [List.findIdx_cons]
    cases louder l k y <;> rfl
  | y :: r, i + 1, x, h => by
    have ih := rk_step (l := l) (k := k) (L := r) (i := i) (x := x) h
    show rk l k (r.drop i) = _
    rw [ih]
    rfl
end Um

namespace Um
open PySem PySem.Spec PyProof.Rows L2
/-! what the top leaves, by its row (0 is __name__) -/
def top (i : Nat) : Stmt := PySem.Challenge.pw_unwantedmail_s04_order.main.body.getD i (.Pass ⟨0, 0, 0, 0⟩)
abbrev sOr : Stmt := top 3
abbrev sRef : Stmt := top 4
abbrev sLet : Stmt := top 5
abbrev sRk : Stmt := top 6
abbrev sLo : Stmt := top 7
end Um

namespace Um
open PySem PySem.Spec PyProof.Rows L2
open PySem.W (Codec)
structure Txt (mg : Str → Option Value) : Prop where
  len : mg "len" = none
  range : mg "range" = none
  mT : ∃ t, mg "MOST_TAUGHT" = some (.int 10000 t)
  mW : ∃ t, mg "MOST_WORDS" = some (.int 40 t)
/-! ### promises -/
def spRef : Sp := fun vs H Q _ => vs = [] ∧ ∀ p, H p = none → Q (.ref p) (upd H p (.lst [.int (-22)]))
def spLet (K : PySem.W.Frag) : Sp := fun vs H Q _ => ∃ (n m : Int) (a : Addr) (l : List Int), vs = [.int n, .int m, .ref a] ∧ SqL K H a (l.map V.int) ∧ l.length ≤ 84 ∧ Q (.bl (letter n m l)) H
theorem int_at {ns : List Int} {i : Nat} {x : V} (h : (ns.map V.int)[i]? = some x) : ∃ z, ns[i]? = some z ∧ x = V.int z := by
  rw [List.getElem?_map] at h
  cases e : ns[i]? with
  | none =>
    rw [e] at h
    cases h
  | some z =>
    rw [e] at h
    exact ⟨z, rfl, (Option.some.inj h).symm⟩
theorem at_int {ns : List Int} {i : Nat} {z : Int} (h : ns[i]? = some z) : (ns.map V.int)[i]? = some (V.int z) := by
  rw [List.getElem?_map, h] <;> rfl
theorem tt {c : Bool} {A B : Prop} (hc : c = true) (h : A) : if c = true then A else B := by
  rw [if_pos hc]
  exact h
theorem ff {c : Bool} {A B : Prop} (hc : c = false) (h : B) : if c = true then A else B := by
  rw [hc, if_neg Bool.false_ne_true]
  exact h
theorem same_new {H : Hp} {p : Addr} {o : HO} (hp : H p = none) : Same H (upd H p o) := fun b u e => by
  rw [upd_ne (ne_of_none e hp)]
  exact e
theorem range_two {L : Nat} (h : L ≤ 84) (h2 : L % 2 = 0) : RgC 0 (L : Int) 2 (L / 2) := by
  have e : Builtin.Range.rangeSize 0 (L : Int) 2 = ((L / 2 : Nat) : Int) := by
    unfold Builtin.Range.rangeSize
    rw [if_pos (by decide)]
    split <;> omega
  refine ⟨by decide, by decide, ?_, e⟩
  unfold Builtin.Range.small Builtin.Range.rangeFitsLong
  rw [e]
  simp only [Bool.and_eq_true, Bool.or_eq_true, decide_eq_true_eq, if_pos (show (2 : Int) > 0 by decide)]
  refine ⟨⟨⟨⟨?_, ?_⟩, ?_⟩, ?_⟩, .inr ?_⟩ <;> omega
theorem letter_1 {n m : Int} {l : List Int} (h : 10000 < n) : letter n m l = false := by
  unfold letter
  rw [decide_eq_false (show ¬ n ≤ 10000 by omega)]
  rfl
theorem letter_2 {n m : Int} {l : List Int} (h : 10000 < m) : letter n m l = false := by
  unfold letter
  rw [decide_eq_false (show ¬ m ≤ 10000 by omega), Bool.false_and, Bool.and_false]
theorem letter_3 {n m : Int} {l : List Int} (h : l.length % 2 = 1) : letter n m l = false := by
  unfold letter
  rw [decide_eq_false (show ¬ l.length % 2 = 0 by omega), Bool.false_and, Bool.and_false, Bool.and_false]
theorem letter_4 {n m : Int} {l : List Int} (h : 80 < l.length) : letter n m l = false := by
  unfold letter
  rw [decide_eq_false (show ¬ l.length ≤ 80 by omega), Bool.false_and, Bool.and_false, Bool.and_false, Bool.and_false]
theorem letter_5 {n m : Int} {l : List Int} (h1 : n ≤ 10000) (h2 : m ≤ 10000) (h3 : l.length % 2 = 0) (h4 : l.length ≤ 80) : letter n m l = within n m l := by
  unfold letter
  rw [decide_eq_true h1, decide_eq_true h2, decide_eq_true h3, decide_eq_true h4, Bool.true_and, Bool.true_and, Bool.true_and, Bool.true_and]
section
variable {P : Program} {w : World} {K : PySem.W.Frag} {mg : Str → Option Value} {base : Heap}
theorem scR : FnScope [] [] (defScope sRef) := ⟨rfl, rfl, rfl, by decide +kernel, rfl, by decide +kernel, by decide +kernel⟩
theorem ok_ref {f : Addr} {fd : FuncData} (F : Fun K "refusal" "refusal" sRef f fd) : FnOk P w K mg base CX0 1 f fd [] spRef := by
  refine F.ok scR (fun vs H Q E h => ?_) (fun cdv A outer s H vs Q E hr h => ?_)
  · obtain ⟨rfl, _⟩ := h
    rfl
  · obtain ⟨rfl, q⟩ := h
    refine ⟨_, pss_one (ps_ret (pe_lst (pa_cons (pe_un un_neg pe_int) pa_nil))), ?_⟩
    exact ⟨22, rfl, (by show 1 ≤ sizeLine; decide), fun p hp => q p hp⟩
theorem scL : FnScope ["n", "m", "l", "place"] ["n", "m", "l"] (defScope sLet) := ⟨rfl, rfl, rfl, by decide +kernel, rfl, by decide +kernel, by decide +kernel⟩
theorem ok_let {f : Addr} {fd : FuncData} (T : Txt mg) (F : Fun K "is_letter" "is_letter" sLet f fd) : FnOk P w K mg base CX0 1 f fd ["n", "m", "l"] (spLet K) := by
  refine F.ok scL (fun vs H Q E h => ?_) (fun cdv A outer s H vs Q E hr h => ?_)
  · obtain ⟨n, m, a, l, rfl, _⟩ := h
    rfl
  · obtain ⟨n, m, a, l, rfl, hS, hl, q⟩ := h
    obtain ⟨t1, mT⟩ := T.mT
    obtain ⟨t2, mW⟩ := T.mW
    refine ⟨_, pss_cons (ps_if (PW.pt (pw_or (pt_cmpR op_gt (pv 0) (pe_glob (v := .int 10000) rfl mT ⟨_, rfl⟩) (nomark _)) (pw_or1 (pt_cmpR op_gt (pv 1) (pe_glob (v := .int 10000) rfl mT ⟨_, rfl⟩) (nomark _))))) (pss_one (ps_ret pe_bl)) pss_nil)
      (pss_cons (ps_if (PW.pt (pw_or (pt_cmpR op_eq (pe_op op_mod (pe_callB call_len_seq (by rfl) T.len PySem.boot_len (pa_cons (pv 2) pa_nil)) pe_int) pe_int (nomark _))
          (pw_or1 (pt_cmpR op_gt (pe_callB call_len_seq (by rfl) T.len PySem.boot_len (pa_cons (pv 2) pa_nil)) (pe_op op_mul pe_int (pe_glob (v := .int 40) rfl mW ⟨_, rfl⟩)) (nomark _))))) (pss_one (ps_ret pe_bl)) pss_nil)
      (pss_cons (ps_for PassesOwn.never rfl (pi_range3 (by rfl) T.range (pa_cons pe_int (pa_cons (pe_callB call_len_seq (by rfl) T.len PySem.boot_len (pa_cons (pv 2) pa_nil)) (pa_cons pe_int pa_nil)))) (pg_name (i := 3) scL.nd rfl (.inl rfl))
        (pss_one (ps_if (PW.pt (pw_or (pt_cmpR op_gt (pe_ix ix_list (pv 2) (pv 3) (fun _ _ => rfl)) (pv 0) (nomark _))
          (pw_or1 (pt_cmpR op_gt (pe_ix ix_list (pv 2) (pe_op op_add (pv 3) pe_int) (fun _ _ => rfl)) (pv 1) (nomark _))))) (pss_one (ps_ret pe_bl)) pss_nil)))
      (pss_one (ps_ret pe_bl)))), ?_⟩
    -- n > MOST_TAUGHT or m > MOST_TAUGHT
    refine ⟨_, rfl, n, 10000, rfl, rfl, _, rfl, ?_⟩
    by_cases c1 : 10000 < n
    · refine tt (decide_eq_true c1) (iteT ?_)
      rw [letter_1 c1] at q
      exact q
    refine ff (decide_eq_false c1) ⟨_, rfl, m, 10000, rfl, rfl, _, rfl, ?_⟩
    by_cases c2 : 10000 < m
    · refine tt (decide_eq_true c2) ?_
      rw [letter_2 c2] at q
      exact q
    refine ff (decide_eq_false c2) ?_
    -- len(l) % 2 == 1 or len(l) > 2 * MOST_WORDS
    have hn : (l.map V.int).length = l.length := List.length_map ..
    refine ⟨_, rfl, a, _, rfl, .inl hS, _, _, rfl, rfl, (by show (0 : Int) < 2; decide), rfl, _, rfl, ?_⟩
    by_cases c3 : l.length % 2 = 1
    · refine tt (decide_eq_true ?_) (iteT ?_)
      · rw [hn]
        exact congrArg V.int (by omega)
      · rw [letter_3 c3] at q
        exact q
    refine ff (decide_eq_false fun z => c3 ?_) ⟨_, rfl, a, _, rfl, .inl hS, 2, 40, rfl, rfl, .inl ⟨by decide, by decide⟩, _, _, rfl, rfl, _, rfl, ?_⟩
    · have z2 := V.int.inj z
      rw [hn] at z2
      omega
    by_cases c4 : 80 < l.length
    · refine tt (decide_eq_true ?_) ?_
      · rw [hn]
        omega
      · rw [letter_4 c4] at q
        exact q
    refine ff (decide_eq_false fun z => c4 ?_) ?_
    · rw [hn] at z
      omega
    rw [letter_5 (by omega) (by omega) (by omega) (by omega)] at q
    -- the loop
    refine ⟨_, rfl, a, _, rfl, .inl hS, 0, (l.length : Int), 2, l.length / 2, by rw [hn], range_two (by omega) (by omega), ?_⟩
    refine for_rangeC (fun i σ H' => ∃ v : Option V, σ = [some (.int n), some (.int m), some (.ref a), v] ∧ H' = H ∧ within n m l = within n m (l.drop (2 * i))) ⟨none, rfl, rfl, rfl⟩ ?_ ?_
    · rintro i σ H' hi ⟨v, rfl, rfl, ew⟩
      obtain ⟨x, y, e1, e2, e3⟩ := within_step (n := n) (m := m) l i (by omega)
      have g1 : atI (l.map V.int) (0 + (i : Int) * 2) = some (.int x) := by
        rw [show (0 + (i : Int) * 2 : Int) = ((2 * i : Nat) : Int) by omega]
        exact atI_nat (at_int e1)
      have g2 : atI (l.map V.int) (0 + (i : Int) * 2 + 1) = some (.int y) := by
        rw [show (0 + (i : Int) * 2 + 1 : Int) = ((2 * i + 1 : Nat) : Int) by omega]
        exact atI_nat (at_int e2)
      refine ⟨_, rfl, _, rfl, a, _, _, _, rfl, rfl, hS, g1, _, rfl, x, n, rfl, rfl, _, rfl, ?_⟩
      by_cases d1 : n < x
      · refine tt (decide_eq_true d1) (iteT ?_)
        rw [ew, e3, decide_eq_false (show ¬ x ≤ n by omega), Bool.false_and] at q
        exact q
      refine ff (decide_eq_false d1) ⟨_, rfl, _, rfl, _, _, rfl, rfl, a, _, _, _, rfl, rfl, hS, g2, _, rfl, y, m, rfl, rfl, _, rfl, ?_⟩
      by_cases d2 : m < y
      · refine tt (decide_eq_true d2) ?_
        rw [ew, e3, decide_eq_false (show ¬ y ≤ m by omega), Bool.false_and, Bool.and_false] at q
        exact q
      refine ff (decide_eq_false d2) ?_
      refine ⟨_, rfl, rfl, ?_⟩
      rw [ew, e3, decide_eq_true (show x ≤ n by omega), decide_eq_true (show y ≤ m by omega), Bool.true_and, Bool.true_and]
    · rintro σ H' ⟨v, rfl, rfl, ew⟩
      rw [ew, List.drop_eq_nil_of_le (by omega)] at q
      exact q
theorem letter_says {n m : Int} {l : List Int} (hl : ∀ x ∈ l, 0 ≤ x) (c : letter n m l = true) : n ≤ 10000 ∧ m ≤ 10000 ∧ l.length ≤ 80 ∧ (∀ x ∈ evens l, 0 ≤ x ∧ x ≤ 10000) ∧ (∀ x ∈ odds l, 0 ≤ x ∧ x ≤ 10000) := by
  have h2 := letter_even c
  unfold letter at c
  simp only [Bool.and_eq_true, decide_eq_true_eq] at c
  obtain ⟨c1, c2, _, c4, c5⟩ := c
  obtain ⟨p, q⟩ := within_mem h2 c5
  refine ⟨c1, c2, c4, fun x hx => ⟨hl x (evens_mem hx), ?_⟩, fun x hx => ⟨hl x (odds_mem hx), ?_⟩⟩
  · exact Int.le_trans (p x hx) c1
  · exact Int.le_trans (q x hx) c2
end
end Um

namespace Um
open PySem PySem.Spec PyProof.Rows L2
open PySem.W (Codec)
/-- a place, as a value -/
abbrev nV (k : Nat) : V := .int (k : Int)
/-- a letter of numbers in range -/
def Rng (l : List Int) : Prop := l.length ≤ 80 ∧ ∀ x ∈ l, 0 ≤ x ∧ x ≤ 10000
def spLo (K : PySem.W.Frag) : Sp := fun vs H Q _ => ∃ (a : Addr) (l : List Int) (i j : Nat), vs = [.ref a, nV i, nV j] ∧ SqL K H a (l.map V.int) ∧ Rng l ∧ 2 * i + 1 < l.length ∧ 2 * j + 1 < l.length ∧ Q (.bl (louder l i j)) H
def spRk (K : PySem.W.Frag) : Sp := fun vs H Q _ => ∃ (a p : Addr) (l : List Int) (L : List Nat) (k : Nat), vs = [.ref a, .ref p, nV k] ∧ SqL K H a (l.map V.int) ∧ SqL K H p (L.map nV) ∧ Rng l ∧ 2 * k + 1 < l.length ∧ (∀ j ∈ L, 2 * j + 1 < l.length) ∧ L.length ≤ 80 ∧
  Q (nV (rk l k L)) H
def spOr (K : PySem.W.Frag) : Sp := fun vs H Q _ => ∃ (a : Addr) (l : List Int), vs = [.ref a] ∧ SqL K H a (l.map V.int) ∧ l.length ≤ 84 ∧ (∀ x ∈ l, 0 ≤ x) ∧
  ∀ H' p, H' p = some (.lst ((order l).map V.int)) → Q (.ref p) H'
theorem getD_at {l : List Int} {i : Nat} (h : i < l.length) : l[i]? = some (l.getD i 0) := by
  rw [List.getD_eq_getElem?_getD, List.getElem?_eq_getElem h]
  rfl
theorem rng_at {l : List Int} (h : Rng l) {i : Nat} (hi : i < l.length) : 0 ≤ l.getD i 0 ∧ l.getD i 0 ≤ 10000 := h.2 _ (List.mem_of_getElem? (getD_at hi))
theorem mem_parts {x : Int} : ∀ {l : List Int}, l.length % 2 = 0 → x ∈ l → x ∈ evens l ∨ x ∈ odds l
  | a :: b :: r, h2, h => by
    rcases List.mem_cons.mp h with e | h
    · rw [e]
      exact .inl (List.mem_cons_self ..)
    · rcases List.mem_cons.mp h with e | h
      · rw [e]
        exact .inr (List.mem_cons_self ..)
      · rcases mem_parts (l := r) (by simp only [List.length_cons] at h2; omega) h with e | e
        · exact .inl (List.mem_cons_of_mem _ e)
        · exact .inr (List.mem_cons_of_mem _ e)
  | [a], h2, _ => absurd h2 (by simp)
  | [], _, h => absurd h (by simp)
theorem rng_of {l : List Int} (hx : ∀ x ∈ l, 0 ≤ x) (c : letter 10000 10000 l = true) : Rng l := by
  obtain ⟨_, _, c3, c4, c5⟩ := letter_says hx c
  refine ⟨c3, fun x h => ?_⟩
  rcases mem_parts (letter_even c) h with e | e
  · exact c4 x e
  · exact c5 x e
section
variable {P : Program} {w : World} {K : PySem.W.Frag} {mg : Str → Option Value} {base : Heap}
theorem scLo : FnScope ["l", "one", "other"] ["l", "one", "other"] (defScope sLo) := ⟨rfl, rfl, rfl, by decide +kernel, rfl, by decide +kernel, by decide +kernel⟩
theorem ok_lo {f : Addr} {fd : FuncData} (F : Fun K "is_louder" "is_louder" sLo f fd) : FnOk P w K mg base CX0 1 f fd ["l", "one", "other"] (spLo K) := by
  refine F.ok scLo (fun vs H Q E h => ?_) (fun cdv A outer s H vs Q E hr h => ?_)
  · obtain ⟨a, l, i, j, rfl, _⟩ := h
    rfl
  · obtain ⟨a, l, i, j, rfl, hS, hR, hi, hj, q⟩ := h
    refine ⟨_, pss_one (ps_ret (pe_cmpR op_gt
      (pe_op op_mulW (pe_op op_add (pe_ix ix_list (pv 0) (pe_op op_add (pe_op op_mulW pe_int (pv 1)) pe_int) (fun _ _ => rfl)) pe_int) (pe_op op_add (pe_ix ix_list (pv 0) (pe_op op_mulW pe_int (pv 2)) (fun _ _ => rfl)) pe_int))
      (pe_op op_mulW (pe_op op_add (pe_ix ix_list (pv 0) (pe_op op_add (pe_op op_mulW pe_int (pv 2)) pe_int) (fun _ _ => rfl)) pe_int) (pe_op op_add (pe_ix ix_list (pv 0) (pe_op op_mulW pe_int (pv 1)) (fun _ _ => rfl)) pe_int)) (nomark _))), ?_⟩
    have hlen : l.length ≤ 80 := hR.1
    have hat : ∀ k : Nat, k < l.length → atI (l.map V.int) (k : Int) = some (.int (l.getD k 0)) := fun k hk => atI_nat (at_int (getD_at hk))
    have ei : atI (l.map V.int) (2 * (i : Int)) = some (.int (l.getD (2 * i) 0)) := by
      rw [show (2 * (i : Int)) = ((2 * i : Nat) : Int) by omega]
      exact hat _ (by omega)
    have ei1 : atI (l.map V.int) (2 * (i : Int) + 1) = some (.int (l.getD (2 * i + 1) 0)) := by
      rw [show (2 * (i : Int) + 1) = ((2 * i + 1 : Nat) : Int) by omega]
      exact hat _ hi
    have ej : atI (l.map V.int) (2 * (j : Int)) = some (.int (l.getD (2 * j) 0)) := by
      rw [show (2 * (j : Int)) = ((2 * j : Nat) : Int) by omega]
      exact hat _ (by omega)
    have ej1 : atI (l.map V.int) (2 * (j : Int) + 1) = some (.int (l.getD (2 * j + 1) 0)) := by
      rw [show (2 * (j : Int) + 1) = ((2 * j + 1 : Nat) : Int) by omega]
      exact hat _ hj
    have gi := rng_at hR (i := 2 * i) (by omega)
    have gi1 := rng_at hR hi
    have gj := rng_at hR (i := 2 * j) (by omega)
    have gj1 := rng_at hR hj
    have w2 : ∀ k : Nat, 2 * k + 1 < l.length → CMulW 2 (k : Int) := fun k hk => wide_mul (a := 2) (b := 14) (by decide) (by omega) (by decide) (by decide) (by decide)
    have ww : ∀ x y : Int, (0 ≤ x ∧ x ≤ 10000) → (0 ≤ y ∧ y ≤ 10000) → CMulW (x + 1) (y + 1) := fun x y hx hy => wide_mul (a := 14) (b := 14) (by omega) (by omega) (by decide) (by decide) (by decide)
    refine ⟨_, rfl, _, rfl, 2, _, rfl, rfl, w2 i hi, _, _, rfl, rfl, a, _, _, _, rfl, rfl, hS, ei1, _, _, rfl, rfl, ?_⟩
    refine ⟨_, rfl, _, rfl, 2, _, rfl, rfl, w2 j hj, a, _, _, _, rfl, rfl, hS, ej, _, _, rfl, rfl, _, _, rfl, rfl, ww _ _ gi1 gj, ?_⟩
    refine ⟨_, rfl, _, rfl, 2, _, rfl, rfl, w2 j hj, _, _, rfl, rfl, a, _, _, _, rfl, rfl, hS, ej1, _, _, rfl, rfl, ?_⟩
    refine ⟨_, rfl, _, rfl, 2, _, rfl, rfl, w2 i hi, a, _, _, _, rfl, rfl, hS, ei, _, _, rfl, rfl, _, _, rfl, rfl, ww _ _ gj1 gi, ?_⟩
    exact ⟨_, _, rfl, rfl, q⟩
theorem scRk : FnScope ["l", "places", "place", "ahead"] ["l", "places", "place"] (defScope sRk) := ⟨rfl, rfl, rfl, by decide +kernel, rfl, by decide +kernel, by decide +kernel⟩
theorem ok_rk {f fLo : Addr} {fd fdLo : FuncData} (T : Txt mg) (F : Fun K "rank" "rank" sRk f fd) (FLo : Fun K "is_louder" "is_louder" sLo fLo fdLo) (bLo : Binds K fdLo ["l", "one", "other"] []) (gLo : mg "is_louder" = some (.ref fLo)) :
    FnOk P w K mg base CX0 2 f fd ["l", "places", "place"] (spRk K) := by
  have GLo : FnOk P w K mg base CX0 1 fLo fdLo ["l", "one", "other"] (spLo K) := ok_lo FLo
  refine F.ok scRk (fun vs H Q E h => ?_) (fun cdv A outer s H vs Q E hr h => ?_)
  · obtain ⟨a, p, l, L, k, rfl, _⟩ := h
    rfl
  · obtain ⟨a, p, l, L, k, rfl, hS, hP, hR, hk, hL, hn, q⟩ := h
    have en : (L.map nV).length = L.length := List.length_map ..
    refine ⟨_, pss_cons (ps_for PassesOwn.never rfl (pi_range1 (by rfl) T.range (pa_cons (pe_callB call_len_seq (by rfl) T.len PySem.boot_len (pa_cons (pv 1) pa_nil)) pa_nil)) (pg_name (i := 3) scRk.nd rfl (.inl rfl))
        (pss_one (ps_if (pt_val (pe_call GLo hr rfl gLo FLo.kp bLo .nil pass0 (pa_cons (pv 0) (pa_cons (pv 2) (pa_cons (pe_ix ix_list (pv 1) (pv 3) (fun _ _ => rfl)) pa_nil))))) (pss_one (ps_ret (pv 3))) pss_nil)))
      (pss_one (ps_ret (pe_callB call_len_seq (by rfl) T.len PySem.boot_len (pa_cons (pv 1) pa_nil)))), ?_⟩
    refine ⟨_, rfl, p, _, rfl, .inl hP, (L.length : Int), by rw [en], by omega, by omega, ?_⟩
    refine for_range (fun i σ H' => ∃ v : Option V, σ = [some (.ref a), some (.ref p), some (nV k), v] ∧ H' = H ∧ rk l k L = i + rk l k (L.drop i)) ⟨none, rfl, rfl, by rw [Nat.zero_add, List.drop_zero]⟩ ?_ ?_
    · rintro i σ H' hi ⟨v, rfl, rfl, ew⟩
      rw [Int.toNat_natCast] at hi
      obtain ⟨x, hx⟩ : ∃ x, L[i]? = some x := ⟨_, List.getElem?_eq_getElem hi⟩
      have es := rk_step (l := l) (k := k) hx
      have g1 : atI (L.map nV) (0 + (i : Int)) = some (nV x) := by
        rw [Int.zero_add]
        refine atI_nat ?_
        rw [List.getElem?_map, hx]
        rfl
      refine ⟨_, rfl, _, rfl, _, rfl, _, rfl, p, _, _, _, rfl, rfl, hP, g1, ?_⟩
      refine ⟨a, l, k, x, rfl, hS, hR, hk, hL x (List.mem_of_getElem? hx), _, rfl, ?_⟩
      cases d : louder l k x with
      | true =>
        refine tt rfl ⟨_, rfl, ?_⟩
        rw [d] at es
        rw [ew, es] at q
        rw [Int.zero_add]
        exact q
      | false =>
        refine ff rfl ⟨_, rfl, rfl, ?_⟩
        rw [d] at es
        rw [ew, es]
        show i + (rk l k (L.drop (i + 1)) + 1) = i + 1 + rk l k (L.drop (i + 1))
        omega
    · rintro σ H' ⟨v, rfl, rfl, ew⟩
      rw [Int.toNat_natCast] at ew
      rw [List.drop_eq_nil_of_le (Nat.le_refl _)] at ew
      refine ⟨_, rfl, p, _, rfl, .inl hP, ?_⟩
      rw [en]
      rw [show rk l k L = L.length from ew] at q
      exact q
theorem scO : FnScope ["l", "places", "place"] ["l"] (defScope sOr) := ⟨rfl, rfl, rfl, by decide +kernel, rfl, by decide +kernel, by decide +kernel⟩
theorem ok_or {f fR fL fRk fLo : Addr} {fd fdR fdL fdRk fdLo : FuncData} (T : Txt mg) (F : Fun K "order" "order" sOr f fd) (FR : Fun K "refusal" "refusal" sRef fR fdR) (bR : Binds K fdR [] []) (gR : mg "refusal" = some (.ref fR))
    (FL : Fun K "is_letter" "is_letter" sLet fL fdL) (bL : Binds K fdL ["n", "m", "l"] []) (gL : mg "is_letter" = some (.ref fL))
    (FRk : Fun K "rank" "rank" sRk fRk fdRk) (bRk : Binds K fdRk ["l", "places", "place"] []) (gRk : mg "rank" = some (.ref fRk))
    (FLo : Fun K "is_louder" "is_louder" sLo fLo fdLo) (bLo : Binds K fdLo ["l", "one", "other"] []) (gLo : mg "is_louder" = some (.ref fLo)) : FnOk P w K mg base CX0 3 f fd ["l"] (spOr K) := by
  have GR : FnOk P w K mg base CX0 2 fR fdR [] spRef := (ok_ref FR).mono (by decide)
  have GL : FnOk P w K mg base CX0 2 fL fdL ["n", "m", "l"] (spLet K) := (ok_let T FL).mono (by decide)
  have GRk : FnOk P w K mg base CX0 2 fRk fdRk ["l", "places", "place"] (spRk K) := ok_rk T FRk FLo bLo gLo
  obtain ⟨t1, mT⟩ := T.mT
  refine F.ok scO (fun vs H Q E h => ?_) (fun cdv A outer s H vs Q E hr h => ?_)
  · obtain ⟨a, l, rfl, _⟩ := h
    rfl
  · obtain ⟨a, l, rfl, hS, hl, hx, q⟩ := h
    refine ⟨_, pss_cons (ps_if (pt_not (pt_val (pe_call GL hr rfl gL FL.kp bL .nil pass0 (pa_cons (pe_glob (v := .int 10000) rfl mT ⟨_, rfl⟩) (pa_cons (pe_glob (v := .int 10000) rfl mT ⟨_, rfl⟩) (pa_cons (pv 0) pa_nil)))))) (pss_one (ps_ret (pe_call0 GR hr rfl gR FR.kp bR .nil pass0))) pss_nil)
      (pss_cons (ps_set (i := 1) scO.nd rfl (.inl rfl) (pe_lst pa_nil))
      (pss_cons (ps_for PassesOwn.never rfl (pi_range1 (by rfl) T.range (pa_cons (pe_op op_fdiv (pe_callB call_len_seq (by rfl) T.len PySem.boot_len (pa_cons (pv 0) pa_nil)) pe_int) pa_nil)) (pg_name (i := 2) scO.nd rfl (.inl rfl))
        (pss_one (ps_expr (pe_bm PySem.F.plainAttrs_list PySem.F.slot_list_insert PySem.F.type_list_insert mt_insert (pv 1) (pa_cons (pe_call GRk hr rfl gRk FRk.kp bRk .nil pass0 (pa_cons (pv 0) (pa_cons (pv 1) (pa_cons (pv 2) pa_nil)))) (pa_cons (pv 2) pa_nil))))))
      (pss_one (ps_ret (pe_op op_cat (pe_lst (pa_cons (pe_callB call_len_seq (by rfl) T.len PySem.boot_len (pa_cons (pv 1) pa_nil)) pa_nil)) (pv 1)))))), ?_⟩
    refine ⟨_, rfl, 10000, 10000, a, l, rfl, hS, hl, _, rfl, ?_⟩
    cases c : letter 10000 10000 l with
    | false =>
      refine tt rfl ⟨rfl, fun p hp => q _ p ?_⟩
      unfold order
      rw [if_neg (by rw [c]; exact Bool.false_ne_true)]
      exact upd_same
    | true =>
      refine ff rfl ?_
      have eq : order l = ((l.length / 2 : Nat) : Int) :: (ins l (l.length / 2)).map fun k : Nat => (k : Int) := by
        unfold order
        rw [if_pos c]
      rw [eq] at q
      have hR : Rng l := rng_of hx c
      have h80 : l.length ≤ 80 := hR.1
      refine ⟨by show 0 ≤ sizeLine; decide, fun p hp => ?_⟩
      have s1 : Same H (upd H p (.lst [])) := same_new hp
      have ed : ((l.map V.int).length : Int) / 2 = ((l.length / 2 : Nat) : Int) := by
        rw [List.length_map]
        omega
      refine ⟨_, rfl, a, _, rfl, .inl (s1.seq hS), _, _, rfl, rfl, ⟨by decide, by decide⟩, ((l.length / 2 : Nat) : Int), congrArg (fun z : Int => [V.int z]) ed, by omega, by omega, ?_⟩
      refine for_range (fun i σ H' => ∃ v : Option V, σ = [some (.ref a), some (.ref p), v] ∧ Same H H' ∧ H' p = some (.lst ((ins l i).map nV))) ⟨none, rfl, s1, upd_same⟩ ?_ ?_
      · rintro i σ H' hi ⟨v, rfl, sH, hH⟩
        rw [Int.toNat_natCast] at hi
        refine ⟨_, rfl, .inl ⟨rfl, _, .inl (.inl hH)⟩, _, rfl, _, rfl, _, rfl, ?_⟩
        rw [Int.zero_add]
        refine ⟨a, p, l, ins l i, i, rfl, sH.seq hS, SqL.of hH, hR, by omega, fun j hj => ?_, ?_, ?_⟩
        · have z := ins_lt l i j hj
          omega
        · rw [ins_len]
          omega
        have hr2 : rk l i (ins l i) ≤ (ins l i).length := List.findIdx_le_length
        rw [ins_len] at hr2
        refine ⟨_, rfl, p, (ins l i).map nV, _, _, rfl, rfl, hH, ?_, by omega, by omega, ?_⟩
        · rw [List.length_map, ins_len]
          exact Nat.lt_of_le_of_lt (show i ≤ 40 by omega) (by decide)
        refine ⟨_, rfl, fun b u e => ?_, ?_⟩
        · rw [upd_ne (ne_of_none e hp)]
          exact sH b u e
        · rw [upd_same, Int.toNat_natCast, ← List.map_take, ← List.map_drop]
          show some (HO.lst (((ins l i).take (rk l i (ins l i))).map nV ++ [nV i].map id ++ ((ins l i).drop (rk l i (ins l i))).map nV)) = _
          rw [List.map_id, show [nV i] = [i].map nV from rfl, ← List.map_append, ← List.map_append]
          rfl
      · rintro σ H' ⟨v, rfl, sH, hH⟩
        rw [Int.toNat_natCast] at hH
        refine ⟨_, rfl, p, _, rfl, .inl (SqL.of hH), by show 1 ≤ sizeLine; decide, fun p2 hp2 => ?_⟩
        have hH2 : upd H' p2 (.lst [.int (((ins l (l.length / 2)).map nV).length : Int)]) p = some (.lst ((ins l (l.length / 2)).map nV)) := by
          rw [upd_ne (ne_of_none hH hp2)]
          exact hH
        refine ⟨_, rfl, p2, p, _, _, rfl, rfl, upd_same, hH2, ?_, fun p3 hp3 => q _ p3 ?_⟩
        · rw [List.length_map, ins_len, List.length_singleton]
          exact Nat.le_trans (show 1 + l.length / 2 ≤ 41 by omega) (by decide)
        · rw [upd_same, List.length_map, ins_len]
          show some (HO.lst (V.int ((l.length / 2 : Nat) : Int) :: (ins l (l.length / 2)).map nV)) = some (HO.lst (V.int ((l.length / 2 : Nat) : Int) :: ((ins l (l.length / 2)).map fun k : Nat => (k : Int)).map V.int))
          rw [List.map_map]
          rfl
theorem all_mk {P : Program} {w : World} {K : PySem.W.Frag} {h : Heap} {mg : Str → Option Value} {fa f1 f2 f3 f5 f4 : Addr} {t1 t2 : Tok} (X : K.In h) (G : h.Ns mainGlobals mg) (hfa : mg "order" = some (.ref fa))
    {od1 an1 od2 an2 od3 an3 od5 an5 od4 an4 : Option Addr} {sl1 sl2 sl3 sl5 sl4 : Array (Option Value)} {oc1 kV1 dc1 pm1 cd1 ct1 oc2 kV2 dc2 pm2 cd2 ct2 oc3 kV3 dc3 pm3 cd3 ct3 oc5 kV5 dc5 pm5 cd5 ct5 oc4 kV4 dc4 pm4 cd4 ct4 : Value}
    (a1 : PySem.W.nsIn K mainGlobals "refusal" = some (some (.ref f1))) (l1 : K.lookup f1 = some ⟨oc1, od1, .func (PySem.W.fnOf "refusal" "refusal" (defArgs sRef) (defBody sRef) (defScope sRef) .none kV1 dc1 pm1 an1 cd1 ct1), sl1⟩) (c1 : PySem.W.codeIn K cd1 "refusal" = true) (k1 : PySem.W.keepIn K (.ref f1) = true)
    (a2 : PySem.W.nsIn K mainGlobals "is_letter" = some (some (.ref f2))) (l2 : K.lookup f2 = some ⟨oc2, od2, .func (PySem.W.fnOf "is_letter" "is_letter" (defArgs sLet) (defBody sLet) (defScope sLet) .none kV2 dc2 pm2 an2 cd2 ct2), sl2⟩) (c2 : PySem.W.codeIn K cd2 "is_letter" = true) (k2 : PySem.W.keepIn K (.ref f2) = true)
    (a3 : PySem.W.nsIn K mainGlobals "rank" = some (some (.ref f3))) (l3 : K.lookup f3 = some ⟨oc3, od3, .func (PySem.W.fnOf "rank" "rank" (defArgs sRk) (defBody sRk) (defScope sRk) .none kV3 dc3 pm3 an3 cd3 ct3), sl3⟩) (c3 : PySem.W.codeIn K cd3 "rank" = true) (k3 : PySem.W.keepIn K (.ref f3) = true)
    (a5 : PySem.W.nsIn K mainGlobals "is_louder" = some (some (.ref f5))) (l5 : K.lookup f5 = some ⟨oc5, od5, .func (PySem.W.fnOf "is_louder" "is_louder" (defArgs sLo) (defBody sLo) (defScope sLo) .none kV5 dc5 pm5 an5 cd5 ct5), sl5⟩) (c5 : PySem.W.codeIn K cd5 "is_louder" = true) (k5 : PySem.W.keepIn K (.ref f5) = true)
    (a4 : PySem.W.nsIn K mainGlobals "order" = some (some (.ref f4))) (l4 : K.lookup f4 = some ⟨oc4, od4, .func (PySem.W.fnOf "order" "order" (defArgs sOr) (defBody sOr) (defScope sOr) .none kV4 dc4 pm4 an4 cd4 ct4), sl4⟩) (c4 : PySem.W.codeIn K cd4 "order" = true) (k4 : PySem.W.keepIn K (.ref f4) = true)
    (z1 : PySem.W.nsIn K mainGlobals "len" = some none) (z2 : PySem.W.nsIn K mainGlobals "range" = some none)
    (y1 : PySem.W.nsIn K mainGlobals "MOST_TAUGHT" = some (some (.int 10000 t1)))
    (y2 : PySem.W.nsIn K mainGlobals "MOST_WORDS" = some (some (.int 40 t2))) :
    ∃ fd : FuncData, (∀ (s : Shared) (us : List Value), us.length = (["l"] : List Str).length → BindsTo s fd ⟨us, []⟩ ((["l"] : List Str).zip us)) ∧ ∀ base : Heap, K.In base → base.Ns mainGlobals mg → FnOk P w K mg base CX0 3 fa fd ["l"] (spOr K) := by
  have e := hfa.symm.trans (PySem.W.mg_of X G a4)
  cases e
  have T : Txt mg := ⟨PySem.W.mg_none_of X G z1, PySem.W.mg_none_of X G z2, ⟨_, PySem.W.mg_of X G y1⟩, ⟨_, PySem.W.mg_of X G y2⟩⟩
  have F1 := fun_mk (st := sRef) l1 c1 k1
  have F2 := fun_mk (st := sLet) l2 c2 k2
  have F3 := fun_mk (st := sRk) l3 c3 k3
  have F5 := fun_mk (st := sLo) l5 c5 k5
  have F4 := fun_mk (st := sOr) l4 c4 k4
  have b1 := F1.binds (ps := []) fun _ _ _ _ _ _ us hl => match us, hl with | [], _ => rfl
  have b2 := F2.binds (ps := ["n", "m", "l"]) fun _ _ _ _ _ _ us hl => match us, hl with | [_, _, _], _ => rfl
  have b3 := F3.binds (ps := ["l", "places", "place"]) fun _ _ _ _ _ _ us hl => match us, hl with | [_, _, _], _ => rfl
  have b5 := F5.binds (ps := ["l", "one", "other"]) fun _ _ _ _ _ _ us hl => match us, hl with | [_, _, _], _ => rfl
  exact ⟨PySem.W.fnOf "order" "order" (defArgs sOr) (defBody sOr) (defScope sOr) .none kV4 dc4 pm4 an4 cd4 ct4, fun s us hu => match us, hu with | [_], _ => .of_eq rfl, fun base _ _ => ok_or T F4 F1 b1 (PySem.W.mg_of X G a1) F2 b2 (PySem.W.mg_of X G a2) F3 b3 (PySem.W.mg_of X G a3) F5 b5 (PySem.W.mg_of X G a5)⟩
end
end Um
open PySem PySem.W PyProof.Rows
set_option maxRecDepth 100000 in
set_option maxHeartbeats 8000000 in
theorem PySem.Challenge.cw_unwantedmail_s04_order_holds : PySem.Challenge.rw_unwantedmail_s04_order.Holds := by
  w_on; k_headS; (case hw => exact ⟨[.list []], by decide +kernel, by decide +kernel⟩)
  k_fillS
  refine L2.walk_specK (r := PySem.Challenge.rw_unwantedmail_s04_order) (k := 3) (CX := L2.CX0) (ps := ["l"]) (sp := Um.spOr) (by decide +kernel) rfl rfl ⟨rfl, by decide, by decide⟩ (fun w h Y => PySem.W.kIn_of Y) ?F ?S (fun _ _ _ _ z => z)
  case F =>
    intro w mg fa h Y KX G hmg
    refine' Um.all_mk KX G hmg ?a1 ?l1 ?c1 ?k1 ?a2 ?l2 ?c2 ?k2 ?a3 ?l3 ?c3 ?k3 ?a4 ?l4 ?c4 ?k4 ?a5 ?l5 ?c5 ?k5 ?z1 ?z2 ?y1 ?y2
    (case a1 => k_is); (case l1 => k_is); (case c1 => k_is); (case k1 => k_is)
    (case a2 => k_is); (case l2 => k_is); (case c2 => k_is); (case k2 => k_is)
    (case a3 => k_is); (case l3 => k_is); (case c3 => k_is); (case k3 => k_is)
    (case a4 => k_is); (case l4 => k_is); (case c4 => k_is); (case k4 => k_is)
    (case a5 => k_is); (case l5 => k_is); (case c5 => k_is); (case k5 => k_is)
    (case z1 => k_is); (case z2 => k_is); (case y1 => k_is); (case y2 => k_is)
  case S =>
    intro K H xs a hO hwi hask hx
    obtain ⟨l, u⟩ := a
    cases hx with
    | cons h3 hx =>
      cases hx
      cases h3 with
      | lst hs ha =>
        have e := L2.ints_dw l _ ha
        subst e
        have q : ((Codec.inLen 0 84 l && l.all (Codec.inInt 0 4294967295)) && true) = true := hwi
        rw [Bool.and_eq_true, Bool.and_eq_true] at q
        obtain ⟨⟨q3, q4⟩, _⟩ := q
        have r4 : ∀ x ∈ l, 0 ≤ x := fun x hx => (Codec.inInt_iff.mp (List.all_eq_true.mp q4 x hx)).1
        refine ⟨_, l, rfl, hs, (Codec.inNat_iff.mp q3).2, r4, fun H' p hp => ?_⟩
        refine .lst (L2.SqL.of hp) ?_
        have e : PyKys2.order l = Um.order l := Um.order_is r4
        rw [← e]
        exact L2.dw_ints _
#print axioms PySem.Challenge.cw_unwantedmail_s04_order_holds

