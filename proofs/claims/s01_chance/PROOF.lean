import PyProof.Rows.All
import Wide.All
import OpenK.AllK
import Wide.FinOn
import Open.SpecLaws
import KE.OsGo
import HandS.ForSpec
import HandS.Iter
import HandS.Wide
import PySem.Challenge.RW_unwantedmail_s01_chance
set_option Elab.async false
set_option maxRecDepth 100000
set_option maxHeartbeats 2000000
namespace Um
/-! the letters of the desk: every second item, the weight of one side, whether a letter is in range -/
def evens {α : Type} : List α → List α
  | a :: _ :: r => a :: evens r
  | [a] => [a]
  | [] => []
def odds {α : Type} : List α → List α
  | _ :: b :: r => b :: odds r
  | _ => []
theorem evens_map {α β : Type} (f : α → β) : ∀ l : List α, evens (l.map f) = (evens l).map f
  | a :: b :: r => by
    show f a :: evens (r.map f) = f a :: (evens r).map f
    rw [evens_map f r]
  | [a] => rfl
  | [] => rfl
theorem odds_map {α β : Type} (f : α → β) : ∀ l : List α, odds (l.map f) = (odds l).map f
  | a :: b :: r => by
    show f b :: odds (r.map f) = f b :: (odds r).map f
    rw [odds_map f r]
  | [a] => rfl
  | [] => rfl
theorem evens_len {α : Type} : ∀ l : List α, (evens l).length = (l.length + 1) / 2
  | a :: b :: r => by
    show (evens r).length + 1 = (r.length + 1 + 1 + 1) / 2
    rw [evens_len r]
    omega
  | [a] => by simp [evens]
  | [] => by simp [evens]
theorem odds_len {α : Type} : ∀ l : List α, (odds l).length = l.length / 2
  | a :: b :: r => by
    show (odds r).length + 1 = (r.length + 1 + 1) / 2
    rw [odds_len r]
    omega
  | [a] => by simp [odds]
  | [] => by simp [odds]
theorem evens_mem {α : Type} {x : α} : ∀ {l : List α}, x ∈ evens l → x ∈ l
  | a :: b :: r, h => by
    rcases List.mem_cons.mp (show x ∈ a :: evens r from h) with e | e
    · rw [e]
      exact List.mem_cons_self ..
    · exact List.mem_cons_of_mem _ (List.mem_cons_of_mem _ (evens_mem e))
  | [a], h => h
  | [], h => h
theorem odds_mem {α : Type} {x : α} : ∀ {l : List α}, x ∈ odds l → x ∈ l
  | a :: b :: r, h => by
    rcases List.mem_cons.mp (show x ∈ b :: odds r from h) with e | e
    · rw [e]
      exact List.mem_cons_of_mem _ (List.mem_cons_self ..)
    · exact List.mem_cons_of_mem _ (List.mem_cons_of_mem _ (odds_mem e))
  | [a], h => absurd h (by simp [odds])
  | [], h => absurd h (by simp [odds])
/-- the weight of one side -/
def wgt (own other : Int) (ws : List Int) : Int := ws.foldl (fun p x => p * (x + 1) * (other + 2)) (own + 1)
/-- each word within what was taught -/
def within (n m : Int) : List Int → Bool
  | a :: b :: r => decide (a ≤ n) && (decide (b ≤ m) && within n m r)
  | _ => true
def letter (n m : Int) (l : List Int) : Bool := decide (n ≤ 10000) && (decide (m ≤ 10000) && (decide (l.length % 2 = 0) && (decide (l.length ≤ 80) && within n m l)))
/-! the specification's side -/
theorem seen_len : ∀ l : List Nat, (Kys2.seen l).length = l.length / 2
  | a :: b :: r => by
    show (Kys2.seen r).length + 1 = (r.length + 1 + 1) / 2
    rw [seen_len r]
    omega
  | [a] => by simp [Kys2.seen]
  | [] => by simp [Kys2.seen]
theorem le_toNat {a n : Int} (ha : 0 ≤ a) (hn : 0 ≤ n) : (a.toNat ≤ n.toNat) ↔ a ≤ n := by omega
theorem all_within {n m : Int} (hn : 0 ≤ n) (hm : 0 ≤ m) : ∀ l : List Int, (∀ x ∈ l, 0 ≤ x) → ((Kys2.seen (Kys2Neutral.natsOf l)).all fun x => decide (x.a ≤ n.toNat) && decide (x.b ≤ m.toNat)) = within n m l
  | a :: b :: r, h => by
    have ha := h a (List.mem_cons_self ..)
    have hb := h b (List.mem_cons_of_mem _ (List.mem_cons_self ..))
    have ih := all_within hn hm r fun x hx => h x (List.mem_cons_of_mem _ (List.mem_cons_of_mem _ hx))
    show ((decide (a.toNat ≤ n.toNat) && decide (b.toNat ≤ m.toNat)) && ((Kys2.seen (Kys2Neutral.natsOf r)).all fun x => decide (x.a ≤ n.toNat) && decide (x.b ≤ m.toNat))) = (decide (a ≤ n) && (decide (b ≤ m) && within n m r))
    rw [ih, Bool.and_assoc, decide_eq_decide.mpr (le_toNat ha hn), decide_eq_decide.mpr (le_toNat hb hm)]
  | [a], _ => rfl
  | [], _ => rfl
theorem nats_len (l : List Int) : (Kys2Neutral.natsOf l).length = l.length := List.length_map ..
theorem good_letter {n m : Int} (hn : 0 ≤ n) (hm : 0 ≤ m) {l : List Int} (h : ∀ x ∈ l, 0 ≤ x) : Kys2.good n.toNat m.toNat (Kys2Neutral.natsOf l) = letter n m l := by
  unfold Kys2.good Kys2.ok letter
  rw [all_within hn hm l h, seen_len, nats_len]
  have e1 : decide (n.toNat ≤ 10000) = decide (n ≤ 10000) := decide_eq_decide.mpr (by omega)
  have e2 : decide (m.toNat ≤ 10000) = decide (m ≤ 10000) := decide_eq_decide.mpr (by omega)
  rw [e1, e2]
  by_cases h2 : l.length % 2 = 0
  · have e3 : decide (l.length / 2 ≤ 40) = decide (l.length ≤ 80) := decide_eq_decide.mpr (by omega)
    rw [e3]
    cases decide (n ≤ 10000) <;> cases decide (m ≤ 10000) <;> cases decide (l.length % 2 = 0) <;> cases decide (l.length ≤ 80) <;> rfl
  · rw [decide_eq_false h2]
    cases decide (n ≤ 10000) <;> cases decide (m ≤ 10000) <;> rfl
theorem foldl_mul (ws : List Nat) : ∀ k : Nat, ws.foldl (· * ·) k = k * Kys2.prod ws := by
  induction ws with
  | nil => intro k; exact (Nat.mul_one k).symm
  | cons x r ih =>
    intro k
    have e1 : Kys2.prod (x :: r) = r.foldl (· * ·) (1 * x) := rfl
    rw [e1, ih (1 * x)]
    show r.foldl (· * ·) (k * x) = _
    rw [ih (k * x), Nat.one_mul, Nat.mul_assoc]
theorem wgt_fold (other : Int) (ho : 0 ≤ other) : ∀ (ws : List Int) (k : Nat), (∀ x ∈ ws, 0 ≤ x) → ws.foldl (fun p x => p * (x + 1) * (other + 2)) (k : Int) = ((k * Kys2.prod (ws.map fun x => (x.toNat + 1) * (other.toNat + 2)) : Nat) : Int)
  | [], k, _ => by
    show (k : Int) = ((k * 1 : Nat) : Int)
    rw [Nat.mul_one]
  | x :: r, k, h => by
    have hx := h x (List.mem_cons_self ..)
    have e : (k : Int) * (x + 1) * (other + 2) = ((k * ((x.toNat + 1) * (other.toNat + 2)) : Nat) : Int) := by
      rw [Int.natCast_mul, Int.natCast_mul, Int.natCast_add, Int.natCast_add, Int.toNat_of_nonneg hx, Int.toNat_of_nonneg ho, Int.mul_assoc]
      rfl
    show r.foldl (fun p x => p * (x + 1) * (other + 2)) ((k : Int) * (x + 1) * (other + 2)) = _
    rw [e, wgt_fold other ho r _ fun y hy => h y (List.mem_cons_of_mem _ hy)]
    have e1 : Kys2.prod ((x :: r).map fun x => (x.toNat + 1) * (other.toNat + 2)) = (r.map fun x => (x.toNat + 1) * (other.toNat + 2)).foldl (· * ·) (1 * ((x.toNat + 1) * (other.toNat + 2))) := rfl
    rw [e1, foldl_mul, Nat.one_mul, Nat.mul_assoc]
theorem wgt_nat {own other : Int} (h0 : 0 ≤ own) (h1 : 0 ≤ other) {ws : List Int} (h : ∀ x ∈ ws, 0 ≤ x) : wgt own other ws = (((own.toNat + 1) * Kys2.prod (ws.map fun x => (x.toNat + 1) * (other.toNat + 2)) : Nat) : Int) := by
  unfold wgt
  have e : own + 1 = ((own.toNat + 1 : Nat) : Int) := by omega
  rw [e]
  exact wgt_fold other h1 ws _ h
theorem seen_evens (g : Nat → Nat) : ∀ l : List Int, l.length % 2 = 0 → ((Kys2.seen (Kys2Neutral.natsOf l)).map fun x => g x.a) = (evens l).map fun x => g x.toNat
  | a :: b :: r, h => by
    show g a.toNat :: ((Kys2.seen (Kys2Neutral.natsOf r)).map fun x => g x.a) = g a.toNat :: (evens r).map fun x => g x.toNat
    rw [seen_evens g r (by simp only [List.length_cons] at h; omega)]
  | [a], h => absurd h (by simp)
  | [], _ => rfl
theorem seen_odds (g : Nat → Nat) : ∀ l : List Int, ((Kys2.seen (Kys2Neutral.natsOf l)).map fun x => g x.b) = (odds l).map fun x => g x.toNat
  | a :: b :: r => by
    show g b.toNat :: ((Kys2.seen (Kys2Neutral.natsOf r)).map fun x => g x.b) = g b.toNat :: (odds r).map fun x => g x.toNat
    rw [seen_odds g r]
  | [a] => rfl
  | [] => rfl
theorem wanted_is {n m : Int} (hn : 0 ≤ n) (hm : 0 ≤ m) {l : List Int} (h : ∀ x ∈ l, 0 ≤ x) (h2 : l.length % 2 = 0) : ((Kys2.wanted n.toNat m.toNat (Kys2.seen (Kys2Neutral.natsOf l)) : Nat) : Int) = wgt n m (evens l) := by
  rw [wgt_nat hn hm fun x hx => h x (evens_mem hx)]
  unfold Kys2.wanted
  rw [seen_evens (fun a => (a + 1) * (m.toNat + 2)) l h2]
theorem unwanted_is {n m : Int} (hn : 0 ≤ n) (hm : 0 ≤ m) {l : List Int} (h : ∀ x ∈ l, 0 ≤ x) : ((Kys2.unwanted n.toNat m.toNat (Kys2.seen (Kys2Neutral.natsOf l)) : Nat) : Int) = wgt m n (odds l) := by
  rw [wgt_nat hm hn fun x hx => h x (odds_mem hx)]
  unfold Kys2.unwanted
  rw [seen_odds (fun a => (a + 1) * (n.toNat + 2)) l]
theorem letter_even {n m : Int} {l : List Int} (h : letter n m l = true) : l.length % 2 = 0 := by
  unfold letter at h
  simp only [Bool.and_eq_true, decide_eq_true_eq] at h
  exact h.2.2.1
/-- chance, as the program says it -/
def chance (n m : Int) (l : List Int) : List Int := if letter n m l = true then [wgt m n (odds l) * 1000 / (wgt n m (evens l) + wgt m n (odds l))] else [-22]
theorem chance_is {n m : Int} (hn : 0 ≤ n) (hm : 0 ≤ m) {l : List Int} (h : ∀ x ∈ l, 0 ≤ x) : PyKys2.chance n m l = chance n m l := by
  have e : PyKys2.chance n m l = (fun a : Kys1.Ans => a.value :: Kys2Neutral.ints a.nums) (if Kys2.good n.toNat m.toNat (Kys2Neutral.natsOf l) = false then Kys1.say (-22) else Kys1.say (Kys2.chance n.toNat m.toNat (Kys2.seen (Kys2Neutral.natsOf l)) : Nat)) := rfl
  rw [e]
  unfold chance
  rw [good_letter hn hm h]
  cases c : letter n m l with
  | false => rfl
  | true =>
    have h2 := letter_even c
    show [((Kys2.chance n.toNat m.toNat (Kys2.seen (Kys2Neutral.natsOf l)) : Nat) : Int)] = [_]
    unfold Kys2.chance
    rw [Int.natCast_ediv, Int.natCast_mul, Int.natCast_add, wanted_is hn hm h h2, unwanted_is hn hm h, Int.mul_comm]
    rfl
/-! how large the weights are -/
theorem mul_bits {i j : Int} {a b : Nat} (ha : i.natAbs < 2 ^ a) (hb : j.natAbs < 2 ^ b) : (i * j).natAbs < 2 ^ (a + b) := by
  rw [Int.natAbs_mul, Nat.pow_add]
  exact Nat.mul_lt_mul'' ha hb
theorem take_more {α : Type} : ∀ {l : List α} {i : Nat} {x : α}, l[i]? = some x → l.take (i + 1) = l.take i ++ [x]
  | [], i, x, h => by simp at h
  | a :: l, 0, x, h => by
    have e : a = x := Option.some.inj h
    subst e
    rfl
  | a :: l, i + 1, x, h => by
    have ih := take_more (l := l) (i := i) (x := x) h
    show a :: l.take (i + 1) = a :: l.take i ++ [x]
    rw [ih]
    rfl
theorem wgt_more {own other : Int} {ws : List Int} {i : Nat} {x : Int} (h : ws[i]? = some x) : wgt own other (ws.take (i + 1)) = wgt own other (ws.take i) * (x + 1) * (other + 2) := by
  unfold wgt
  rw [take_more h, List.foldl_append]
  rfl
theorem wgt_pos {own other : Int} (h0 : 0 ≤ own) (h1 : 0 ≤ other) {ws : List Int} (h : ∀ x ∈ ws, 0 ≤ x) : 0 < wgt own other ws := by
  rw [wgt_nat h0 h1 h]
  refine Int.natCast_pos.mpr (Nat.mul_pos (by omega) ?_)
  clear h
  induction ws with
  | nil => exact Nat.one_pos
  | cons x r ih =>
    have e1 : Kys2.prod ((x :: r).map fun x => (x.toNat + 1) * (other.toNat + 2)) = (r.map fun x => (x.toNat + 1) * (other.toNat + 2)).foldl (· * ·) (1 * ((x.toNat + 1) * (other.toNat + 2))) := rfl
    rw [e1, foldl_mul, Nat.one_mul]
    exact Nat.mul_pos (Nat.mul_pos (by omega) (by omega)) ih
/-- fourteen bits each -/
theorem wgt_bits {own other : Int} (h0 : 0 ≤ own) (h0' : own ≤ 10000) (h1 : 0 ≤ other) (h1' : other ≤ 10000) : ∀ (ws : List Int) (k : Int) (b : Nat), k.natAbs < 2 ^ b → (∀ x ∈ ws, 0 ≤ x ∧ x ≤ 10000) → (ws.foldl (fun p x => p * (x + 1) * (other + 2)) k).natAbs < 2 ^ (b + 28 * ws.length)
  | [], k, b, hk, _ => hk
  | x :: r, k, b, hk, h => by
    have hx := h x (List.mem_cons_self ..)
    have e1 : (x + 1).natAbs < 2 ^ 14 := by omega
    have e2 : (other + 2).natAbs < 2 ^ 14 := by omega
    have e3 := mul_bits (mul_bits hk e1) e2
    have ih := wgt_bits h0 h0' h1 h1' r _ _ e3 fun y hy => h y (List.mem_cons_of_mem _ hy)
    have e4 : b + 14 + 14 + 28 * r.length = b + 28 * (x :: r).length := by
      rw [List.length_cons]
      omega
    rw [e4] at ih
    exact ih
set_option exponentiation.threshold 2000 in
theorem wgt_size {own other : Int} (h0 : 0 ≤ own) (h0' : own ≤ 10000) (h1 : 0 ≤ other) (h1' : other ≤ 10000) {ws : List Int} (h : ∀ x ∈ ws, 0 ≤ x ∧ x ≤ 10000) (hl : ws.length ≤ 40) : (wgt own other ws).natAbs < 2 ^ 1134 := by
  have e := wgt_bits h0 h0' h1 h1' ws (own + 1) 14 (by omega) h
  refine Nat.lt_of_lt_of_le e (Nat.pow_le_pow_right (by decide) ?_)
  omega
/-- what a letter's numbers are -/
theorem within_mem {n m : Int} : ∀ {l : List Int}, l.length % 2 = 0 → within n m l = true → (∀ x ∈ evens l, x ≤ n) ∧ ∀ x ∈ odds l, x ≤ m
  | a :: b :: r, h2, h => by
    have h' : (decide (a ≤ n) && (decide (b ≤ m) && within n m r)) = true := h
    simp only [Bool.and_eq_true, decide_eq_true_eq] at h'
    obtain ⟨p, q⟩ := within_mem (l := r) (by simp only [List.length_cons] at h2; omega) h'.2.2
    refine ⟨fun x hx => ?_, fun x hx => ?_⟩
    · rcases List.mem_cons.mp (show x ∈ a :: evens r from hx) with e | e
      · rw [e]
        exact h'.1
      · exact p x e
    · rcases List.mem_cons.mp (show x ∈ b :: odds r from hx) with e | e
      · rw [e]
        exact h'.2.1
      · exact q x e
  | [a], h2, _ => absurd h2 (by simp)
  | [], _, _ => ⟨fun x hx => absurd hx (by simp [evens]), fun x hx => absurd hx (by simp [odds])⟩
/-- within, behind i words: the loop's own words -/
theorem within_step {n m : Int} : ∀ (l : List Int) (i : Nat), 2 * i + 1 < l.length → ∃ a b, l[2 * i]? = some a ∧ l[2 * i + 1]? = some b ∧ within n m (l.drop (2 * i)) = (decide (a ≤ n) && (decide (b ≤ m) && within n m (l.drop (2 * (i + 1)))))
  | a :: b :: r, 0, _ => ⟨a, b, rfl, rfl, rfl⟩
  | a :: b :: r, i + 1, h => by
    obtain ⟨x, y, e1, e2, e3⟩ := within_step (n := n) (m := m) r i (by simp only [List.length_cons] at h; omega)
    refine ⟨x, y, ?_, ?_, ?_⟩
    · show (a :: b :: r)[2 * i + 1 + 1]? = some x
      rw [List.getElem?_cons_succ, List.getElem?_cons_succ, e1]
    · show (a :: b :: r)[2 * i + 1 + 1 + 1]? = some y
      rw [List.getElem?_cons_succ, List.getElem?_cons_succ, e2]
    · exact e3
  | [a], i, h => absurd h (by simp only [List.length_cons, List.length_nil]; omega)
  | [], i, h => absurd h (by simp only [List.length_nil]; omega)
theorem pick_even {α : Type} : ∀ l : List α, ((List.range ((l.length + 1) / 2)).filterMap fun k => l[2 * k]?) = evens l
  | a :: b :: r => by
    have e : ((a :: b :: r).length + 1) / 2 = (r.length + 1) / 2 + 1 := by
      simp only [List.length_cons]
      omega
    rw [e, List.range_succ_eq_map, List.filterMap_cons, List.filterMap_map]
    show a :: ((List.range ((r.length + 1) / 2)).filterMap fun k => (a :: b :: r)[2 * (k + 1)]?) = a :: evens r
    rw [← pick_even r]
    congr 1
  | [a] => by simp [evens]
  | [] => by simp [evens]
theorem pick_odd {α : Type} : ∀ l : List α, ((List.range (l.length / 2)).filterMap fun k => l[2 * k + 1]?) = odds l
  | a :: b :: r => by
    have e : (a :: b :: r).length / 2 = r.length / 2 + 1 := by
      simp only [List.length_cons]
      omega
    rw [e, List.range_succ_eq_map, List.filterMap_cons, List.filterMap_map]
    show b :: ((List.range (r.length / 2)).filterMap fun k => (a :: b :: r)[2 * (k + 1) + 1]?) = b :: odds r
    rw [← pick_odd r]
    congr 1
  | [a] => by simp [odds]
  | [] => by simp [odds]
/-! told, says, order, as a program says them -/
def told (t n m : Int) (l : List Int) : List Int := if 1 ≤ t ∧ t ≤ 1000 ∧ letter n m l = true then (if t * wgt n m (evens l) ≤ wgt m n (odds l) then [2] else if wgt n m (evens l) < wgt m n (odds l) then [1] else [0]) else [-22]
theorem told_is {t n m : Int} (ht : 0 ≤ t) (hn : 0 ≤ n) (hm : 0 ≤ m) {l : List Int} (h : ∀ x ∈ l, 0 ≤ x) : PyKys2.told t n m l = told t n m l := by
  have e : PyKys2.told t n m l = (fun a : Kys1.Ans => a.value :: Kys2Neutral.ints a.nums) (if t.toNat < 1 ∨ 1000 < t.toNat ∨ Kys2.good n.toNat m.toNat (Kys2Neutral.natsOf l) = false then Kys1.say (-22) else Kys1.say (Kys2.told t.toNat n.toNat m.toNat (Kys2.seen (Kys2Neutral.natsOf l)) : Nat)) := rfl
  rw [e]
  unfold told
  rw [good_letter hn hm h]
  by_cases c : 1 ≤ t ∧ t ≤ 1000 ∧ letter n m l = true
  · have c2 : ¬ (t.toNat < 1 ∨ 1000 < t.toNat ∨ letter n m l = false) := by
      rintro (z | z | z)
      · omega
      · omega
      · rw [c.2.2] at z
        cases z
    rw [if_pos c, if_neg c2]
    have h2 := letter_even c.2.2
    show [((Kys2.told t.toNat n.toNat m.toNat (Kys2.seen (Kys2Neutral.natsOf l)) : Nat) : Int)] = _
    unfold Kys2.told
    have eW := wanted_is hn hm h h2
    have eU := unwanted_is hn hm h
    have i1 : (t.toNat * Kys2.wanted n.toNat m.toNat (Kys2.seen (Kys2Neutral.natsOf l)) ≤ Kys2.unwanted n.toNat m.toNat (Kys2.seen (Kys2Neutral.natsOf l))) ↔ t * wgt n m (evens l) ≤ wgt m n (odds l) := by
      rw [← eW, ← eU, ← Int.ofNat_le, Int.natCast_mul, Int.toNat_of_nonneg ht]
    have i2 : (Kys2.wanted n.toNat m.toNat (Kys2.seen (Kys2Neutral.natsOf l)) < Kys2.unwanted n.toNat m.toNat (Kys2.seen (Kys2Neutral.natsOf l))) ↔ wgt n m (evens l) < wgt m n (odds l) := by
      rw [← eW, ← eU, ← Int.ofNat_lt]
    by_cases d1 : t * wgt n m (evens l) ≤ wgt m n (odds l)
    · rw [if_pos d1, if_pos (i1.mpr d1)]
      rfl
    · rw [if_neg d1, if_neg fun z => d1 (i1.mp z)]
      by_cases d2 : wgt n m (evens l) < wgt m n (odds l)
      · rw [if_pos d2, if_pos (i2.mpr d2)]
        rfl
      · rw [if_neg d2, if_neg fun z => d2 (i2.mp z)]
        rfl
  · have c2 : t.toNat < 1 ∨ 1000 < t.toNat ∨ letter n m l = false := by
      cases d : letter n m l with
      | false => exact .inr (.inr rfl)
      | true =>
        rw [d] at c
        have c3 : ¬ (1 ≤ t ∧ t ≤ 1000) := fun z => c ⟨z.1, z.2, rfl⟩
        omega
    rw [if_neg c, if_pos c2]
    rfl
def says (n m a b : Int) : List Int := if letter n m [a, b] = true then (if (a + 1) * (m + 2) < (b + 1) * (n + 2) then [2] else if (b + 1) * (n + 2) < (a + 1) * (m + 2) then [1] else [0]) else [-22]
theorem says_is {n m a b : Int} (hn : 0 ≤ n) (hm : 0 ≤ m) (ha : 0 ≤ a) (hb : 0 ≤ b) : PyKys2.says n m a b = says n m a b := by
  have e : PyKys2.says n m a b = (fun a : Kys1.Ans => a.value :: Kys2Neutral.ints a.nums) (if Kys2.good n.toNat m.toNat (Kys2Neutral.natsOf [a, b]) = false then Kys1.say (-22) else Kys1.say (Kys2.says n.toNat m.toNat ⟨a.toNat, b.toNat⟩ : Nat)) := rfl
  rw [e, good_letter hn hm (by
    intro x hx
    rcases List.mem_cons.mp hx with e | hx
    · omega
    · have e := List.mem_singleton.mp hx
      omega)]
  unfold says
  cases c : letter n m [a, b] with
  | false => rfl
  | true =>
    show [((Kys2.says n.toNat m.toNat ⟨a.toNat, b.toNat⟩ : Nat) : Int)] = (if (a + 1) * (m + 2) < (b + 1) * (n + 2) then [2] else if (b + 1) * (n + 2) < (a + 1) * (m + 2) then [1] else [0])
    unfold Kys2.says Kys2.forA Kys2.forB
    have e1 : (((a.toNat + 1) * (m.toNat + 2) : Nat) : Int) = (a + 1) * (m + 2) := by
      rw [Int.natCast_mul, Int.natCast_add, Int.natCast_add, Int.toNat_of_nonneg ha, Int.toNat_of_nonneg hm]
      rfl
    have e2 : (((b.toNat + 1) * (n.toNat + 2) : Nat) : Int) = (b + 1) * (n + 2) := by
      rw [Int.natCast_mul, Int.natCast_add, Int.natCast_add, Int.toNat_of_nonneg hb, Int.toNat_of_nonneg hn]
      rfl
    have i1 : ((a.toNat + 1) * (m.toNat + 2) < (b.toNat + 1) * (n.toNat + 2)) ↔ (a + 1) * (m + 2) < (b + 1) * (n + 2) := by
      rw [← e1, ← e2, Int.ofNat_lt]
    have i2 : ((b.toNat + 1) * (n.toNat + 2) < (a.toNat + 1) * (m.toNat + 2)) ↔ (b + 1) * (n + 2) < (a + 1) * (m + 2) := by
      rw [← e1, ← e2, Int.ofNat_lt]
    by_cases d1 : (a + 1) * (m + 2) < (b + 1) * (n + 2)
    · rw [if_pos d1]
      show [(((if (a.toNat + 1) * (m.toNat + 2) < (b.toNat + 1) * (n.toNat + 2) then 2 else if (b.toNat + 1) * (n.toNat + 2) < (a.toNat + 1) * (m.toNat + 2) then 1 else 0) : Nat) : Int)] = [2]
      rw [if_pos (i1.mpr d1)]
      rfl
    · rw [if_neg d1]
      show [(((if (a.toNat + 1) * (m.toNat + 2) < (b.toNat + 1) * (n.toNat + 2) then 2 else if (b.toNat + 1) * (n.toNat + 2) < (a.toNat + 1) * (m.toNat + 2) then 1 else 0) : Nat) : Int)] = _
      rw [if_neg fun z => d1 (i1.mp z)]
      by_cases d2 : (b + 1) * (n + 2) < (a + 1) * (m + 2)
      · rw [if_pos d2, if_pos (i2.mpr d2)]
        rfl
      · rw [if_neg d2, if_neg fun z => d2 (i2.mp z)]
        rfl
theorem order_at {l : List Int} (h : ∀ x ∈ l, 0 ≤ x) : PyKys2.order l = if letter 10000 10000 l = true then (((Kys2.order (Kys2.seen (Kys2Neutral.natsOf l))).length : Nat) : Int) :: Kys2Neutral.ints (Kys2.order (Kys2.seen (Kys2Neutral.natsOf l))) else [-22] := by
  have e : PyKys2.order l = (fun a : Kys1.Ans => a.value :: Kys2Neutral.ints a.nums) (if Kys2.good 10000 10000 (Kys2Neutral.natsOf l) = false then Kys1.say (-22) else ⟨((Kys2.order (Kys2.seen (Kys2Neutral.natsOf l))).length : Nat), Kys2.order (Kys2.seen (Kys2Neutral.natsOf l))⟩) := rfl
  have g : Kys2.good 10000 10000 (Kys2Neutral.natsOf l) = letter 10000 10000 l := good_letter (n := 10000) (m := 10000) (by decide) (by decide) h
  rw [e, g]
  cases c : letter 10000 10000 l with
  | false => rfl
  | true => rfl
end Um

namespace Um
open PySem PySem.Spec PyProof.Rows L2
open PySem.W (Codec)
/-! ### a slice with a step -/
def pickV {α : Type} (xs : List α) (lo hi st : Option Int) : List α :=
  (sliceRange (sliceBounds lo hi st xs.length).1 (sliceBounds lo hi st xs.length).2.1 (sliceBounds lo hi st xs.length).2.2).filterMap (xs[·]?)
theorem vals_pick {xs : List V} {us : List Value} (r : Vals xs us) : ∀ ks : List Nat, Vals (ks.filterMap (xs[·]?)) (ks.filterMap (us[·]?))
  | [] => .nil
  | k :: ks => by
    rw [List.filterMap_cons, List.filterMap_cons]
    cases e : xs[k]? with
    | none =>
      rw [r.none_of e]
      exact vals_pick r ks
    | some x =>
      obtain ⟨u, e2, q⟩ := r.get e
      rw [e2]
      exact .cons q (vals_pick r ks)
theorem vals_pickV {xs : List V} {us : List Value} (r : Vals xs us) (lo hi st : Option Int) : Vals (pickV xs lo hi st) (slicePick us.toArray lo hi st).toList := by
  have e : (slicePick us.toArray lo hi st).toList = pickV us lo hi st := by
    unfold slicePick pickV
    simp only [List.size_toArray, List.getElem?_toArray]
  rw [e]
  unfold pickV
  rw [r.length]
  exact vals_pick r _
theorem pickV_len (xs : List V) (us : List Value) (r : Vals xs us) (lo hi st : Option Int) : (pickV xs lo hi st).length ≤ xs.length := by
  have e := (vals_pickV r lo hi st).length
  have z := slicePick_size_le us.toArray lo hi st
  have q := r.length
  have t : us.toArray.size = us.length := List.size_toArray ..
  have y : (slicePick us.toArray lo hi st).toList.length = (slicePick us.toArray lo hi st).size := Array.length_toList
  rw [e, y]
  omega
def tSl3 (K : PySem.W.Frag) (te : TE) (tl th ts : TO) : TE := fun σ H Q => te σ H fun x H1 => tl σ H1 fun l H2 => th σ H2 fun u H3 => ts σ H3 fun o H4 =>
  ∃ a xs, x = .ref a ∧ SqL K H4 a xs ∧ o ≠ some 0 ∧ ∀ p, H4 p = none → Q (.ref p) (upd H4 p (.lst (pickV xs l u o)))
theorem pe_slice3 {X : Cx} {e st : Expr} {te : TE} {lo hi : Option Expr} {tl th ts : TO} {pos p2 : Pos} (he : PE X e te) (hl : PO X lo tl) (hu : PO X hi th) (hs : PO X (some st) ts) : PE X (.Subscript e (.Slice lo hi (some st) p2) pos) (tSl3 X.K te tl th ts) := by
  refine ⟨fun pins s σ H Q I h => ?_⟩
  refine Subscript_ (thn (he.run pins s σ H _ I h) fun v s1 ⟨x, H1, I1, r1, q1⟩ => ?_)
  refine wpAny_Slice (thn (hl.run pins s1 σ H1 _ I1 q1) fun vl s2 ⟨l, H2, I2, pl, q2⟩ => thn (hu.run pins s2 σ H2 _ I2 q2) fun vu s3 ⟨u, H3, I3, pu, q3⟩ => thn (hs.run pins s3 σ H3 _ I3 q3) fun vs s4 ⟨o, H4, I4, ps, q4⟩ => ?_)
  obtain ⟨a, xs, ex, hx, h0, q⟩ := q4
  subst ex
  cases r1
  have I5 : Inv X pins σ H4 { s4 with heap := s4.heap.push { cls := .type "slice", data := .fields #[vl, vu, vs] } } := I4.kept (t' := s4.toks) fun b ob q => Heap.get?_push_of_some _ q
  obtain ⟨its, r, ht, hz⟩ := I5.list hx
  have hlen := r.length
  show wpAny (model X.prog X.w) X.A (subscriptTail e (.Slice lo hi (some st) p2) (.ref a) (.ref s4.heap.objs.size)) (EP X pins σ Q) X.xe { s4 with heap := s4.heap.push { cls := .type "slice", data := .fields #[vl, vu, vs] } }
  refine tail_any (ops := [.ref a, .ref s4.heap.objs.size]) ht.isList.typeIs (PySem.slot_list_getitem.lookup) ?_ (by with_unfolding_all rfl)
  refine wpAny_getItem_list_slice ht.isList (Heap.IsSliceOf.new _ vl vu vs) pl pu ps h0 ?_ (by rw [List.size_toArray]; omega)
  refine ⟨.ref _, _, I5.laid (t' := s4.toks) (o := .lst (pickV xs l u o)) (fun b ob q => Heap.get?_push_of_some _ q) (Nat.le_refl _) ?_, rfl, q _ (I5.hok.fresh (Nat.le_refl _))⟩
  refine ⟨Nat.le_trans (pickV_len xs its r l u o) hz, _, 0, vals_pickV r l u o, ?_⟩
  exact Heap.get?_push_size _ rfl
theorem pick_evens {α : Type} (l : List α) : pickV l (some 0) none (some 2) = evens l := by
  have e : sliceBounds (some 0) none (some 2) l.length = (0, (l.length : Int), 2) := by
    simp only [sliceBounds, Option.getD_some]
    simp only [show (2 : Int) > 0 by decide, show ¬ ((0 : Int) < 0) by decide, if_true, if_false]
    congr 1 <;> omega
  unfold pickV
  rw [e]
  show (sliceRange 0 (l.length : Int) 2).filterMap (l[·]?) = evens l
  have e2 : sliceRange 0 (l.length : Int) 2 = (List.range ((l.length + 1) / 2)).map fun k => 2 * k := by
    unfold sliceRange
    have c : (if (2 : Int) > 0 then (if (0 : Int) < (l.length : Int) then ((l.length : Int) - 0 + 2 - 1) / 2 else 0) else (if (0 : Int) > (l.length : Int) then (0 - (l.length : Int) - 2 - 1) / (-2) else 0)).toNat = (l.length + 1) / 2 := by
      rw [if_pos (by decide)]
      split <;> omega
    dsimp only
    rw [c]
    refine List.map_congr_left fun k _ => ?_
    omega
  rw [e2, List.filterMap_map]
  exact pick_even l
theorem pick_odds {α : Type} (l : List α) : pickV l (some 1) none (some 2) = odds l := by
  unfold pickV
  have e2 : sliceRange (sliceBounds (some 1) none (some 2) l.length).1 (sliceBounds (some 1) none (some 2) l.length).2.1 (sliceBounds (some 1) none (some 2) l.length).2.2 = (List.range (l.length / 2)).map fun k => 2 * k + 1 := by
    cases l with
    | nil =>
      simp [sliceBounds, sliceRange]
      omega
    | cons x r =>
      have e : sliceBounds (some 1) none (some 2) (x :: r).length = (1, ((x :: r).length : Int), 2) := by
        simp only [sliceBounds, Option.getD_some]
        simp only [show (2 : Int) > 0 by decide, show ¬ ((1 : Int) < 0) by decide, if_true, if_false]
        congr 1
        simp only [List.length_cons]
        omega
      rw [e]
      show sliceRange 1 ((x :: r).length : Int) 2 = _
      unfold sliceRange
      have c : (if (2 : Int) > 0 then (if (1 : Int) < ((x :: r).length : Int) then (((x :: r).length : Int) - 1 + 2 - 1) / 2 else 0) else (if (1 : Int) > ((x :: r).length : Int) then (1 - ((x :: r).length : Int) - 2 - 1) / (-2) else 0)).toNat = (x :: r).length / 2 := by
        rw [if_pos (by decide)]
        simp only [List.length_cons]
        split <;> omega
      dsimp only
      rw [c]
      refine List.map_congr_left fun k _ => ?_
      omega
  rw [e2, List.filterMap_map]
  exact pick_odd l
end Um

namespace Um
open PySem PySem.Spec PyProof.Rows L2
/-! what the top leaves, by its row (0 is __name__) -/
def top (i : Nat) : Stmt := PySem.Challenge.pw_unwantedmail_s01_chance.main.body.getD i (.Pass ⟨0, 0, 0, 0⟩)
abbrev sCh : Stmt := top 3
abbrev sRef : Stmt := top 4
abbrev sLet : Stmt := top 5
abbrev sWts : Stmt := top 6
abbrev sWgt : Stmt := top 7
abbrev sWW : Stmt := top 8
end Um

namespace Um
open PySem PySem.Spec PyProof.Rows L2
open PySem.W (Codec)
structure Txt (mg : Str → Option Value) : Prop where
  len : mg "len" = none
  range : mg "range" = none
  mT : ∃ t, mg "MOST_TAUGHT" = some (.int 10000 t)
  mW : ∃ t, mg "MOST_WORDS" = some (.int 40 t)
/-! ### promises -/
def spRef : Sp := fun vs H Q _ => vs = [] ∧ ∀ p, H p = none → Q (.ref p) (upd H p (.lst [.int (-22)]))
def spLet (K : PySem.W.Frag) : Sp := fun vs H Q _ => ∃ (n m : Int) (a : Addr) (l : List Int), vs = [.int n, .int m, .ref a] ∧ SqL K H a (l.map V.int) ∧ l.length ≤ 84 ∧ Q (.bl (letter n m l)) H
theorem int_at {ns : List Int} {i : Nat} {x : V} (h : (ns.map V.int)[i]? = some x) : ∃ z, ns[i]? = some z ∧ x = V.int z := by
  rw [List.getElem?_map] at h
  cases e : ns[i]? with
  | none =>
    rw [e] at h
    cases h
  | some z =>
    rw [e] at h
    exact ⟨z, rfl, (Option.some.inj h).symm⟩
theorem at_int {ns : List Int} {i : Nat} {z : Int} (h : ns[i]? = some z) : (ns.map V.int)[i]? = some (V.int z) := by
  rw [List.getElem?_map, h] <;> rfl
theorem tt {c : Bool} {A B : Prop} (hc : c = true) (h : A) : if c = true then A else B := by
  rw [if_pos hc]
  exact h
theorem ff {c : Bool} {A B : Prop} (hc : c = false) (h : B) : if c = true then A else B := by
  rw [hc, if_neg Bool.false_ne_true]
  exact h
theorem same_new {H : Hp} {p : Addr} {o : HO} (hp : H p = none) : Same H (upd H p o) := fun b u e => by
  rw [upd_ne (ne_of_none e hp)]
  exact e
theorem range_two {L : Nat} (h : L ≤ 84) (h2 : L % 2 = 0) : RgC 0 (L : Int) 2 (L / 2) := by
  have e : Builtin.Range.rangeSize 0 (L : Int) 2 = ((L / 2 : Nat) : Int) := by
    unfold Builtin.Range.rangeSize
    rw [if_pos (by decide)]
    split <;> omega
  refine ⟨by decide, by decide, ?_, e⟩
  unfold Builtin.Range.small Builtin.Range.rangeFitsLong
  rw [e]
  simp only [Bool.and_eq_true, Bool.or_eq_true, decide_eq_true_eq, if_pos (show (2 : Int) > 0 by decide)]
  refine ⟨⟨⟨⟨?_, ?_⟩, ?_⟩, ?_⟩, .inr ?_⟩ <;> omega
theorem letter_1 {n m : Int} {l : List Int} (h : 10000 < n) : letter n m l = false := by
  unfold letter
  rw [decide_eq_false (show ¬ n ≤ 10000 by omega)]
  rfl
theorem letter_2 {n m : Int} {l : List Int} (h : 10000 < m) : letter n m l = false := by
  unfold letter
  rw [decide_eq_false (show ¬ m ≤ 10000 by omega), Bool.false_and, Bool.and_false]
theorem letter_3 {n m : Int} {l : List Int} (h : l.length % 2 = 1) : letter n m l = false := by
  unfold letter
  rw [decide_eq_false (show ¬ l.length % 2 = 0 by omega), Bool.false_and, Bool.and_false, Bool.and_false]
theorem letter_4 {n m : Int} {l : List Int} (h : 80 < l.length) : letter n m l = false := by
  unfold letter
  rw [decide_eq_false (show ¬ l.length ≤ 80 by omega), Bool.false_and, Bool.and_false, Bool.and_false, Bool.and_false]
theorem letter_5 {n m : Int} {l : List Int} (h1 : n ≤ 10000) (h2 : m ≤ 10000) (h3 : l.length % 2 = 0) (h4 : l.length ≤ 80) : letter n m l = within n m l := by
  unfold letter
  rw [decide_eq_true h1, decide_eq_true h2, decide_eq_true h3, decide_eq_true h4, Bool.true_and, Bool.true_and, Bool.true_and, Bool.true_and]
section
variable {P : Program} {w : World} {K : PySem.W.Frag} {mg : Str → Option Value} {base : Heap}
theorem scR : FnScope [] [] (defScope sRef) := ⟨rfl, rfl, rfl, by decide +kernel, rfl, by decide +kernel, by decide +kernel⟩
theorem ok_ref {f : Addr} {fd : FuncData} (F : Fun K "refusal" "refusal" sRef f fd) : FnOk P w K mg base CX0 1 f fd [] spRef := by
  refine F.ok scR (fun vs H Q E h => ?_) (fun cdv A outer s H vs Q E hr h => ?_)
  · obtain ⟨rfl, _⟩ := h
    rfl
  · obtain ⟨rfl, q⟩ := h
    refine ⟨_, pss_one (ps_ret (pe_lst (pa_cons (pe_un un_neg pe_int) pa_nil))), ?_⟩
    exact ⟨22, rfl, (by show 1 ≤ sizeLine; decide), fun p hp => q p hp⟩
theorem scL : FnScope ["n", "m", "l", "place"] ["n", "m", "l"] (defScope sLet) := ⟨rfl, rfl, rfl, by decide +kernel, rfl, by decide +kernel, by decide +kernel⟩
theorem ok_let {f : Addr} {fd : FuncData} (T : Txt mg) (F : Fun K "is_letter" "is_letter" sLet f fd) : FnOk P w K mg base CX0 1 f fd ["n", "m", "l"] (spLet K) := by
  refine F.ok scL (fun vs H Q E h => ?_) (fun cdv A outer s H vs Q E hr h => ?_)
  · obtain ⟨n, m, a, l, rfl, _⟩ := h
    rfl
  · obtain ⟨n, m, a, l, rfl, hS, hl, q⟩ := h
    obtain ⟨t1, mT⟩ := T.mT
    obtain ⟨t2, mW⟩ := T.mW
    refine ⟨_, pss_cons (ps_if (PW.pt (pw_or (pt_cmpR op_gt (pv 0) (pe_glob (v := .int 10000) rfl mT ⟨_, rfl⟩) (nomark _)) (pw_or1 (pt_cmpR op_gt (pv 1) (pe_glob (v := .int 10000) rfl mT ⟨_, rfl⟩) (nomark _))))) (pss_one (ps_ret pe_bl)) pss_nil)
      (pss_cons (ps_if (PW.pt (pw_or (pt_cmpR op_eq (pe_op op_mod (pe_callB call_len_seq (by rfl) T.len PySem.boot_len (pa_cons (pv 2) pa_nil)) pe_int) pe_int (nomark _))
          (pw_or1 (pt_cmpR op_gt (pe_callB call_len_seq (by rfl) T.len PySem.boot_len (pa_cons (pv 2) pa_nil)) (pe_op op_mul pe_int (pe_glob (v := .int 40) rfl mW ⟨_, rfl⟩)) (nomark _))))) (pss_one (ps_ret pe_bl)) pss_nil)
      (pss_cons (ps_for PassesOwn.never rfl (pi_range3 (by rfl) T.range (pa_cons pe_int (pa_cons (pe_callB call_len_seq (by rfl) T.len PySem.boot_len (pa_cons (pv 2) pa_nil)) (pa_cons pe_int pa_nil)))) (pg_name (i := 3) scL.nd rfl (.inl rfl))
        (pss_one (ps_if (PW.pt (pw_or (pt_cmpR op_gt (pe_ix ix_list (pv 2) (pv 3) (fun _ _ => rfl)) (pv 0) (nomark _))
          (pw_or1 (pt_cmpR op_gt (pe_ix ix_list (pv 2) (pe_op op_add (pv 3) pe_int) (fun _ _ => rfl)) (pv 1) (nomark _))))) (pss_one (ps_ret pe_bl)) pss_nil)))
      (pss_one (ps_ret pe_bl)))), ?_⟩
    -- n > MOST_TAUGHT or m > MOST_TAUGHT
    refine ⟨_, rfl, n, 10000, rfl, rfl, _, rfl, ?_⟩
    by_cases c1 : 10000 < n
    · refine tt (decide_eq_true c1) (iteT ?_)
      rw [letter_1 c1] at q
      exact q
    refine ff (decide_eq_false c1) ⟨_, rfl, m, 10000, rfl, rfl, _, rfl, ?_⟩
    by_cases c2 : 10000 < m
    · refine tt (decide_eq_true c2) ?_
      rw [letter_2 c2] at q
      exact q
    refine ff (decide_eq_false c2) ?_
    -- len(l) % 2 == 1 or len(l) > 2 * MOST_WORDS
    have hn : (l.map V.int).length = l.length := List.length_map ..
    refine ⟨_, rfl, a, _, rfl, .inl hS, _, _, rfl, rfl, (by show (0 : Int) < 2; decide), rfl, _, rfl, ?_⟩
    by_cases c3 : l.length % 2 = 1
    · refine tt (decide_eq_true ?_) (iteT ?_)
      · rw [hn]
        exact congrArg V.int (by omega)
      · rw [letter_3 c3] at q
        exact q
    refine ff (decide_eq_false fun z => c3 ?_) ⟨_, rfl, a, _, rfl, .inl hS, 2, 40, rfl, rfl, .inl ⟨by decide, by decide⟩, _, _, rfl, rfl, _, rfl, ?_⟩
    · have z2 := V.int.inj z
      rw [hn] at z2
      omega
    by_cases c4 : 80 < l.length
    · refine tt (decide_eq_true ?_) ?_
      · rw [hn]
        omega
      · rw [letter_4 c4] at q
        exact q
    refine ff (decide_eq_false fun z => c4 ?_) ?_
    · rw [hn] at z
      omega
    rw [letter_5 (by omega) (by omega) (by omega) (by omega)] at q
    -- the loop
    refine ⟨_, rfl, a, _, rfl, .inl hS, 0, (l.length : Int), 2, l.length / 2, by rw [hn], range_two (by omega) (by omega), ?_⟩
    refine for_rangeC (fun i σ H' => ∃ v : Option V, σ = [some (.int n), some (.int m), some (.ref a), v] ∧ H' = H ∧ within n m l = within n m (l.drop (2 * i))) ⟨none, rfl, rfl, rfl⟩ ?_ ?_
    · rintro i σ H' hi ⟨v, rfl, rfl, ew⟩
      obtain ⟨x, y, e1, e2, e3⟩ := within_step (n := n) (m := m) l i (by omega)
      have g1 : atI (l.map V.int) (0 + (i : Int) * 2) = some (.int x) := by
        rw [show (0 + (i : Int) * 2 : Int) = ((2 * i : Nat) : Int) by omega]
        exact atI_nat (at_int e1)
      have g2 : atI (l.map V.int) (0 + (i : Int) * 2 + 1) = some (.int y) := by
        rw [show (0 + (i : Int) * 2 + 1 : Int) = ((2 * i + 1 : Nat) : Int) by omega]
        exact atI_nat (at_int e2)
      refine ⟨_, rfl, _, rfl, a, _, _, _, rfl, rfl, hS, g1, _, rfl, x, n, rfl, rfl, _, rfl, ?_⟩
      by_cases d1 : n < x
      · refine tt (decide_eq_true d1) (iteT ?_)
        rw [ew, e3, decide_eq_false (show ¬ x ≤ n by omega), Bool.false_and] at q
        exact q
      refine ff (decide_eq_false d1) ⟨_, rfl, _, rfl, _, _, rfl, rfl, a, _, _, _, rfl, rfl, hS, g2, _, rfl, y, m, rfl, rfl, _, rfl, ?_⟩
      by_cases d2 : m < y
      · refine tt (decide_eq_true d2) ?_
        rw [ew, e3, decide_eq_false (show ¬ y ≤ m by omega), Bool.false_and, Bool.and_false] at q
        exact q
      refine ff (decide_eq_false d2) ?_
      refine ⟨_, rfl, rfl, ?_⟩
      rw [ew, e3, decide_eq_true (show x ≤ n by omega), decide_eq_true (show y ≤ m by omega), Bool.true_and, Bool.true_and]
    · rintro σ H' ⟨v, rfl, rfl, ew⟩
      rw [ew, List.drop_eq_nil_of_le (by omega)] at q
      exact q
theorem letter_says {n m : Int} {l : List Int} (hl : ∀ x ∈ l, 0 ≤ x) (c : letter n m l = true) : n ≤ 10000 ∧ m ≤ 10000 ∧ l.length ≤ 80 ∧ (∀ x ∈ evens l, 0 ≤ x ∧ x ≤ 10000) ∧ (∀ x ∈ odds l, 0 ≤ x ∧ x ≤ 10000) := by
  have h2 := letter_even c
  unfold letter at c
  simp only [Bool.and_eq_true, decide_eq_true_eq] at c
  obtain ⟨c1, c2, _, c4, c5⟩ := c
  obtain ⟨p, q⟩ := within_mem h2 c5
  refine ⟨c1, c2, c4, fun x hx => ⟨hl x (evens_mem hx), ?_⟩, fun x hx => ⟨hl x (odds_mem hx), ?_⟩⟩
  · exact Int.le_trans (p x hx) c1
  · exact Int.le_trans (q x hx) c2
end
end Um

namespace Um
open PySem PySem.Spec PyProof.Rows L2
open PySem.W (Codec)
/-- what one word does to a side -/
def spWW : Sp := fun vs H Q _ => ∃ (x o : Int), vs = [.int x, .int o] ∧ (0 ≤ x ∧ x ≤ 10000) ∧ (0 ≤ o ∧ o ≤ 10000) ∧ Q (.int ((x + 1) * (o + 2))) H
section
variable {P : Program} {w : World} {K : PySem.W.Frag} {mg : Str → Option Value} {base : Heap}
theorem scWW : FnScope ["letters_with_word", "other"] ["letters_with_word", "other"] (defScope sWW) := ⟨rfl, rfl, rfl, by decide +kernel, rfl, by decide +kernel, by decide +kernel⟩
theorem ok_ww {f : Addr} {fd : FuncData} (F : Fun K "word_weight" "word_weight" sWW f fd) : FnOk P w K mg base CX0 1 f fd ["letters_with_word", "other"] spWW := by
  refine F.ok scWW (fun vs H Q E h => ?_) (fun cdv A outer s H vs Q E hr h => ?_)
  · obtain ⟨x, o, rfl, _⟩ := h
    rfl
  · obtain ⟨x, o, rfl, h0, h1, q⟩ := h
    refine ⟨_, pss_one (ps_ret (pe_op op_mulW (pe_op op_add (pv 0) pe_int) (pe_op op_add (pv 1) pe_int))), ?_⟩
    have e1 : (x + 1).natAbs < 2 ^ 14 := by omega
    have e2 : (o + 2).natAbs < 2 ^ 14 := by omega
    exact ⟨_, rfl, _, _, rfl, rfl, _, rfl, _, _, rfl, rfl, _, _, rfl, rfl, wide_mul e1 e2 (by decide) (by decide) (by decide), q⟩
end
end Um

namespace Um
open PySem PySem.Spec PyProof.Rows L2
open PySem.W (Codec)
def spWgt (K : PySem.W.Frag) : Sp := fun vs H Q _ => ∃ (own other : Int) (a : Addr) (ws : List Int), vs = [.int own, .int other, .ref a] ∧ SqL K H a (ws.map V.int) ∧ (0 ≤ own ∧ own ≤ 10000) ∧ (0 ≤ other ∧ other ≤ 10000) ∧
  (∀ x ∈ ws, 0 ≤ x ∧ x ≤ 10000) ∧ ws.length ≤ 40 ∧ Q (.int (wgt own other ws)) H
section
variable {P : Program} {w : World} {K : PySem.W.Frag} {mg : Str → Option Value} {base : Heap}
theorem scW : FnScope ["own", "other", "letters_with_each", "product", "letters_with_word"] ["own", "other", "letters_with_each"] (defScope sWgt) := ⟨rfl, rfl, rfl, by decide +kernel, rfl, by decide +kernel, by decide +kernel⟩
set_option exponentiation.threshold 3000 in
theorem ok_wgt {f fWW : Addr} {fd fdWW : FuncData} (F : Fun K "weight" "weight" sWgt f fd) (FWW : Fun K "word_weight" "word_weight" sWW fWW fdWW) (bWW : Binds K fdWW ["letters_with_word", "other"] []) (gWW : mg "word_weight" = some (.ref fWW)) :
    FnOk P w K mg base CX0 2 f fd ["own", "other", "letters_with_each"] (spWgt K) := by
  have GWW : FnOk P w K mg base CX0 1 fWW fdWW ["letters_with_word", "other"] spWW := ok_ww FWW
  refine F.ok scW (fun vs H Q E h => ?_) (fun cdv A outer s H vs Q E hr h => ?_)
  · obtain ⟨own, other, a, ws, rfl, _⟩ := h
    rfl
  · obtain ⟨own, other, a, ws, rfl, hS, h0, h1, hx, hl, q⟩ := h
    refine ⟨_, pss_cons (ps_set (i := 3) scW.nd rfl (.inl rfl) (pe_op op_add (pv 0) pe_int))
      (pss_cons (ps_for PassesOwn.never rfl (pi_list (pv 2)) (pg_name (i := 4) scW.nd rfl (.inl rfl))
        (pss_one (ps_set (i := 3) scW.nd rfl (.inl rfl) (pe_op op_mulW (pv 3) (pe_call GWW hr rfl gWW FWW.kp bWW .nil pass0 (pa_cons (pv 4) (pa_cons (pv 1) pa_nil)))))))
      (pss_one (ps_ret (pv 3)))), ?_⟩
    refine ⟨_, rfl, own, 1, rfl, rfl, ?_⟩
    refine ⟨_, rfl, a, rfl, ⟨_, hS⟩, for_list (K := K) (a := a) (xs := ws.map V.int) (fun i σ H' => ∃ v : Option V, σ = [some (.int own), some (.int other), some (.ref a), some (.int (wgt own other (ws.take i))), v] ∧ H' = H)
      ⟨none, rfl, rfl⟩ (fun i σ H' _ ⟨_, _, e⟩ => by rw [e]; exact hS) ?_ ?_⟩
    · rintro i y σ H' hi ⟨v, rfl, rfl⟩
      obtain ⟨z, hz, rfl⟩ := int_at hi
      have hm : z ∈ ws := List.mem_of_getElem? hz
      have hzz := hx z hm
      have hb : (wgt own other (ws.take i)).natAbs < 2 ^ 1134 := wgt_size h0.1 h0.2 h1.1 h1.2 (fun x hx' => hx x (List.mem_of_mem_take hx')) (Nat.le_trans (by rw [List.length_take]; exact Nat.min_le_right _ _) hl)
      have e1 : (z + 1).natAbs < 2 ^ 14 := by omega
      have e2 : (other + 2).natAbs < 2 ^ 14 := by omega
      refine ⟨_, rfl, _, rfl, _, rfl, z, other, rfl, hzz, h1, _, _, rfl, rfl, wide_mul hb (mul_bits e1 e2) (by decide) (by decide) (by decide), ?_⟩
      refine ⟨some (.int z), ?_, rfl⟩
      rw [wgt_more hz, Int.mul_assoc]
      rfl
    · rintro σ H' ⟨v, rfl, rfl⟩
      rw [List.length_map, List.take_length]
      exact ⟨_, rfl, q⟩
def spWts (K : PySem.W.Frag) : Sp := fun vs H Q _ => ∃ (n m : Int) (a : Addr) (l : List Int), vs = [.int n, .int m, .ref a] ∧ SqL K H a (l.map V.int) ∧ 0 ≤ n ∧ 0 ≤ m ∧ (∀ x ∈ l, 0 ≤ x) ∧ letter n m l = true ∧
  ∀ H' p, SqT K H' p [.int (wgt n m (evens l)), .int (wgt m n (odds l))] → Q (.ref p) H'
theorem scWs : FnScope ["n", "m", "l"] ["n", "m", "l"] (defScope sWts) := ⟨rfl, rfl, rfl, by decide +kernel, rfl, by decide +kernel, by decide +kernel⟩
theorem ok_wts {f fW fWW : Addr} {fd fdW fdWW : FuncData} (F : Fun K "weights" "weights" sWts f fd) (FW : Fun K "weight" "weight" sWgt fW fdW) (bW : Binds K fdW ["own", "other", "letters_with_each"] []) (gW : mg "weight" = some (.ref fW))
    (FWW : Fun K "word_weight" "word_weight" sWW fWW fdWW) (bWW : Binds K fdWW ["letters_with_word", "other"] []) (gWW : mg "word_weight" = some (.ref fWW)) : FnOk P w K mg base CX0 3 f fd ["n", "m", "l"] (spWts K) := by
  have GW : FnOk P w K mg base CX0 2 fW fdW ["own", "other", "letters_with_each"] (spWgt K) := ok_wgt FW FWW bWW gWW
  refine F.ok scWs (fun vs H Q E h => ?_) (fun cdv A outer s H vs Q E hr h => ?_)
  · obtain ⟨n, m, a, l, rfl, _⟩ := h
    rfl
  · obtain ⟨n, m, a, l, rfl, hS, hn, hm, hx, c, q⟩ := h
    refine ⟨_, pss_one (ps_ret (pe_tup (pa_cons (pe_call GW hr rfl gW FW.kp bW .nil pass0 (pa_cons (pv 0) (pa_cons (pv 1) (pa_cons (pe_slice3 (pv 2) (po_some pe_int) po_none (po_some pe_int)) pa_nil))))
      (pa_cons (pe_call GW hr rfl gW FW.kp bW .nil pass0 (pa_cons (pv 1) (pa_cons (pv 0) (pa_cons (pe_slice3 (pv 2) (po_some pe_int) po_none (po_some pe_int)) pa_nil)))) pa_nil)))), ?_⟩
    obtain ⟨c1, c2, c3, c4, c5⟩ := letter_says hx c
    refine ⟨_, rfl, _, rfl, _, rfl, 0, rfl, 2, rfl, a, _, rfl, hS, by decide, fun p hp => ?_⟩
    have s1 : Same H (upd H p (.lst (pickV (l.map V.int) (some 0) none (some 2)))) := same_new hp
    refine ⟨n, m, p, evens l, rfl, ?_, ⟨hn, c1⟩, ⟨hm, c2⟩, c4, by rw [evens_len]; omega, ?_⟩
    · rw [← evens_map, ← pick_evens]
      exact SqL.of upd_same
    generalize upd H p (.lst (pickV (l.map V.int) (some 0) none (some 2))) = H1 at s1 ⊢
    refine ⟨_, rfl, _, rfl, _, rfl, 1, rfl, 2, rfl, a, _, rfl, s1.seq hS, by decide, fun p2 hp2 => ?_⟩
    refine ⟨m, n, p2, odds l, rfl, ?_, ⟨hm, c2⟩, ⟨hn, c1⟩, c5, by rw [odds_len]; omega, ?_⟩
    · rw [← odds_map, ← pick_odds]
      exact SqL.of upd_same
    generalize upd H1 p2 (.lst (pickV (l.map V.int) (some 1) none (some 2))) = H2
    exact ⟨by show 2 ≤ sizeLine; decide, fun p3 hp3 => q _ p3 (SqT.of upd_same)⟩
/-- how large a letter's weights are -/
theorem letter_wgt {n m : Int} {l : List Int} (hn : 0 ≤ n) (hm : 0 ≤ m) (hx : ∀ x ∈ l, 0 ≤ x) (c : letter n m l = true) :
    (wgt n m (evens l)).natAbs < 2 ^ 1134 ∧ (wgt m n (odds l)).natAbs < 2 ^ 1134 ∧ 0 < wgt n m (evens l) ∧ 0 < wgt m n (odds l) := by
  obtain ⟨c1, c2, c3, c4, c5⟩ := letter_says hx c
  exact ⟨wgt_size hn c1 hm c2 c4 (by rw [evens_len]; omega), wgt_size hm c2 hn c1 c5 (by rw [odds_len]; omega), wgt_pos hn hm fun x h => (c4 x h).1, wgt_pos hm hn fun x h => (c5 x h).1⟩
end
end Um

namespace Um
open PySem PySem.Spec PyProof.Rows L2
open PySem.W (Codec)
def spCh (K : PySem.W.Frag) : Sp := fun vs H Q _ => ∃ (n m : Int) (a : Addr) (l : List Int), vs = [.int n, .int m, .ref a] ∧ SqL K H a (l.map V.int) ∧ l.length ≤ 84 ∧ 0 ≤ n ∧ 0 ≤ m ∧ (∀ x ∈ l, 0 ≤ x) ∧
  ∀ H' p, H' p = some (.lst ((chance n m l).map V.int)) → Q (.ref p) H'
section
variable {P : Program} {w : World} {K : PySem.W.Frag} {mg : Str → Option Value} {base : Heap}
theorem scC : FnScope ["n", "m", "l", "wanted", "unwanted"] ["n", "m", "l"] (defScope sCh) := ⟨rfl, rfl, rfl, by decide +kernel, rfl, by decide +kernel, by decide +kernel⟩
set_option exponentiation.threshold 3000 in
theorem ok_ch {f fR fL fWs fW fWW : Addr} {fd fdR fdL fdWs fdW fdWW : FuncData} (T : Txt mg) (F : Fun K "chance" "chance" sCh f fd) (FR : Fun K "refusal" "refusal" sRef fR fdR) (bR : Binds K fdR [] []) (gR : mg "refusal" = some (.ref fR))
    (FL : Fun K "is_letter" "is_letter" sLet fL fdL) (bL : Binds K fdL ["n", "m", "l"] []) (gL : mg "is_letter" = some (.ref fL))
    (FWs : Fun K "weights" "weights" sWts fWs fdWs) (bWs : Binds K fdWs ["n", "m", "l"] []) (gWs : mg "weights" = some (.ref fWs))
    (FW : Fun K "weight" "weight" sWgt fW fdW) (bW : Binds K fdW ["own", "other", "letters_with_each"] []) (gW : mg "weight" = some (.ref fW))
    (FWW : Fun K "word_weight" "word_weight" sWW fWW fdWW) (bWW : Binds K fdWW ["letters_with_word", "other"] []) (gWW : mg "word_weight" = some (.ref fWW)) : FnOk P w K mg base CX0 4 f fd ["n", "m", "l"] (spCh K) := by
  have GR : FnOk P w K mg base CX0 3 fR fdR [] spRef := (ok_ref FR).mono (by decide)
  have GL : FnOk P w K mg base CX0 3 fL fdL ["n", "m", "l"] (spLet K) := (ok_let T FL).mono (by decide)
  have GW : FnOk P w K mg base CX0 3 fWs fdWs ["n", "m", "l"] (spWts K) := ok_wts FWs FW bW gW FWW bWW gWW
  refine F.ok scC (fun vs H Q E h => ?_) (fun cdv A outer s H vs Q E hr h => ?_)
  · obtain ⟨n, m, a, l, rfl, _⟩ := h
    rfl
  · obtain ⟨n, m, a, l, rfl, hS, hl, hn, hm, hx, q⟩ := h
    refine ⟨_, pss_cons (ps_if (pt_not (pt_val (pe_call GL hr rfl gL FL.kp bL .nil pass0 (pa_cons (pv 0) (pa_cons (pv 1) (pa_cons (pv 2) pa_nil)))))) (pss_one (ps_ret (pe_call0 GR hr rfl gR FR.kp bR .nil pass0))) pss_nil)
      (pss_cons (ps_asg (pe_call GW hr rfl gWs FWs.kp bWs .nil pass0 (pa_cons (pv 0) (pa_cons (pv 1) (pa_cons (pv 2) pa_nil)))) (pg_tup rfl (pgs_cons (pg_name (i := 3) scC.nd rfl (.inl rfl)) (pgs_cons (pg_name (i := 4) scC.nd rfl (.inl rfl)) pgs_nil))))
      (pss_one (ps_ret (pe_lst (pa_cons (pe_op op_fdivW (pe_op op_mulW (pv 4) pe_int) (pe_op op_add (pv 3) (pv 4))) pa_nil))))), ?_⟩
    refine ⟨_, rfl, _, rfl, _, rfl, n, m, a, l, rfl, hS, hl, _, rfl, ?_⟩
    cases c : letter n m l with
    | false =>
      refine tt rfl ⟨rfl, fun p hp => q _ p ?_⟩
      unfold chance
      rw [if_neg (by rw [c]; exact Bool.false_ne_true)]
      exact upd_same
    | true =>
      refine ff rfl ?_
      refine ⟨_, rfl, _, rfl, _, rfl, n, m, a, l, rfl, hS, hn, hm, hx, c, fun H' p hp => ?_⟩
      obtain ⟨b1, b2, p1, p2⟩ := letter_wgt hn hm hx c
      have b3 : (wgt n m (evens l) + wgt m n (odds l)).natAbs < 2 ^ 1135 := by
        have e : (2 : Nat) ^ 1135 = 2 ^ 1134 + 2 ^ 1134 := by rw [Nat.pow_succ, Nat.mul_two]
        rw [e]
        exact Nat.lt_of_le_of_lt (Int.natAbs_add_le _ _) (Nat.add_lt_add b1 b2)
      refine ⟨p, _, rfl, hp, rfl, _, _, rfl, _, _, rfl, rfl, ?_⟩
      refine ⟨_, rfl, _, _, rfl, rfl, wide_mul (b := 10) b2 (by decide) (by decide) (by decide) (by decide), _, rfl, _, rfl, _, _, rfl, rfl, _, _, rfl, rfl, wide_div (Int.add_pos p1 p2) b3 (by decide) (by decide), ?_⟩
      refine ⟨by show 1 ≤ sizeLine; decide, fun p3 hp3 => q _ p3 ?_⟩
      unfold chance
      rw [if_pos c]
      exact upd_same
theorem all_mk {P : Program} {w : World} {K : PySem.W.Frag} {h : Heap} {mg : Str → Option Value} {fa f1 f2 f3 f4 f5 f6 : Addr} {t1 t2 : Tok} (X : K.In h) (G : h.Ns mainGlobals mg) (hfa : mg "chance" = some (.ref fa))
    {od1 an1 od2 an2 od3 an3 od4 an4 od5 an5 od6 an6 : Option Addr} {sl1 sl2 sl3 sl4 sl5 sl6 : Array (Option Value)} {oc1 kV1 dc1 pm1 cd1 ct1 oc2 kV2 dc2 pm2 cd2 ct2 oc3 kV3 dc3 pm3 cd3 ct3 oc4 kV4 dc4 pm4 cd4 ct4 oc5 kV5 dc5 pm5 cd5 ct5 oc6 kV6 dc6 pm6 cd6 ct6 : Value}
    (a1 : PySem.W.nsIn K mainGlobals "refusal" = some (some (.ref f1))) (l1 : K.lookup f1 = some ⟨oc1, od1, .func (PySem.W.fnOf "refusal" "refusal" (defArgs sRef) (defBody sRef) (defScope sRef) .none kV1 dc1 pm1 an1 cd1 ct1), sl1⟩) (c1 : PySem.W.codeIn K cd1 "refusal" = true) (k1 : PySem.W.keepIn K (.ref f1) = true)
    (a2 : PySem.W.nsIn K mainGlobals "is_letter" = some (some (.ref f2))) (l2 : K.lookup f2 = some ⟨oc2, od2, .func (PySem.W.fnOf "is_letter" "is_letter" (defArgs sLet) (defBody sLet) (defScope sLet) .none kV2 dc2 pm2 an2 cd2 ct2), sl2⟩) (c2 : PySem.W.codeIn K cd2 "is_letter" = true) (k2 : PySem.W.keepIn K (.ref f2) = true)
    (a3 : PySem.W.nsIn K mainGlobals "weight" = some (some (.ref f3))) (l3 : K.lookup f3 = some ⟨oc3, od3, .func (PySem.W.fnOf "weight" "weight" (defArgs sWgt) (defBody sWgt) (defScope sWgt) .none kV3 dc3 pm3 an3 cd3 ct3), sl3⟩) (c3 : PySem.W.codeIn K cd3 "weight" = true) (k3 : PySem.W.keepIn K (.ref f3) = true)
    (a4 : PySem.W.nsIn K mainGlobals "chance" = some (some (.ref f4))) (l4 : K.lookup f4 = some ⟨oc4, od4, .func (PySem.W.fnOf "chance" "chance" (defArgs sCh) (defBody sCh) (defScope sCh) .none kV4 dc4 pm4 an4 cd4 ct4), sl4⟩) (c4 : PySem.W.codeIn K cd4 "chance" = true) (k4 : PySem.W.keepIn K (.ref f4) = true)
    (a5 : PySem.W.nsIn K mainGlobals "weights" = some (some (.ref f5))) (l5 : K.lookup f5 = some ⟨oc5, od5, .func (PySem.W.fnOf "weights" "weights" (defArgs sWts) (defBody sWts) (defScope sWts) .none kV5 dc5 pm5 an5 cd5 ct5), sl5⟩) (c5 : PySem.W.codeIn K cd5 "weights" = true) (k5 : PySem.W.keepIn K (.ref f5) = true)
    (a6 : PySem.W.nsIn K mainGlobals "word_weight" = some (some (.ref f6))) (l6 : K.lookup f6 = some ⟨oc6, od6, .func (PySem.W.fnOf "word_weight" "word_weight" (defArgs sWW) (defBody sWW) (defScope sWW) .none kV6 dc6 pm6 an6 cd6 ct6), sl6⟩) (c6 : PySem.W.codeIn K cd6 "word_weight" = true) (k6 : PySem.W.keepIn K (.ref f6) = true)
    (z1 : PySem.W.nsIn K mainGlobals "len" = some none) (z2 : PySem.W.nsIn K mainGlobals "range" = some none)
    (y1 : PySem.W.nsIn K mainGlobals "MOST_TAUGHT" = some (some (.int 10000 t1))) (y2 : PySem.W.nsIn K mainGlobals "MOST_WORDS" = some (some (.int 40 t2))) :
    ∃ fd : FuncData, (∀ (s : Shared) (us : List Value), us.length = (["n", "m", "l"] : List Str).length → BindsTo s fd ⟨us, []⟩ ((["n", "m", "l"] : List Str).zip us)) ∧ ∀ base : Heap, K.In base → base.Ns mainGlobals mg → FnOk P w K mg base CX0 4 fa fd ["n", "m", "l"] (spCh K) := by
  have e := hfa.symm.trans (PySem.W.mg_of X G a4)
  cases e
  have T : Txt mg := ⟨PySem.W.mg_none_of X G z1, PySem.W.mg_none_of X G z2, ⟨_, PySem.W.mg_of X G y1⟩, ⟨_, PySem.W.mg_of X G y2⟩⟩
  have F1 := fun_mk (st := sRef) l1 c1 k1
  have F2 := fun_mk (st := sLet) l2 c2 k2
  have F3 := fun_mk (st := sWgt) l3 c3 k3
  have F4 := fun_mk (st := sCh) l4 c4 k4
  have F5 := fun_mk (st := sWts) l5 c5 k5
  have F6 := fun_mk (st := sWW) l6 c6 k6
  have b1 := F1.binds (ps := []) fun _ _ _ _ _ _ us hl => match us, hl with | [], _ => rfl
  have b2 := F2.binds (ps := ["n", "m", "l"]) fun _ _ _ _ _ _ us hl => match us, hl with | [_, _, _], _ => rfl
  have b3 := F3.binds (ps := ["own", "other", "letters_with_each"]) fun _ _ _ _ _ _ us hl => match us, hl with | [_, _, _], _ => rfl
  have b6 := F6.binds (ps := ["letters_with_word", "other"]) fun _ _ _ _ _ _ us hl => match us, hl with | [_, _], _ => rfl
  have b5 := F5.binds (ps := ["n", "m", "l"]) fun _ _ _ _ _ _ us hl => match us, hl with | [_, _, _], _ => rfl
  exact ⟨PySem.W.fnOf "chance" "chance" (defArgs sCh) (defBody sCh) (defScope sCh) .none kV4 dc4 pm4 an4 cd4 ct4, fun s us hu => match us, hu with | [_, _, _], _ => .of_eq rfl, fun base _ _ => ok_ch T F4 F1 b1 (PySem.W.mg_of X G a1) F2 b2 (PySem.W.mg_of X G a2) F5 b5 (PySem.W.mg_of X G a5) F3 b3 (PySem.W.mg_of X G a3) F6 b6 (PySem.W.mg_of X G a6)⟩
end
end Um
open PySem PySem.W PyProof.Rows
set_option maxRecDepth 100000 in
set_option maxHeartbeats 8000000 in
theorem PySem.Challenge.cw_unwantedmail_s01_chance_holds : PySem.Challenge.rw_unwantedmail_s01_chance.Holds := by
  w_on; k_headS; (case hw => exact ⟨[.int 0, .int 0, .list []], by decide +kernel, by decide +kernel⟩)
  k_fillS
  refine L2.walk_specK (r := PySem.Challenge.rw_unwantedmail_s01_chance) (k := 4) (CX := L2.CX0) (ps := ["n", "m", "l"]) (sp := Um.spCh) (by decide +kernel) rfl rfl ⟨rfl, by decide, by decide⟩ (fun w h Y => PySem.W.kIn_of Y) ?F ?S (fun _ _ _ _ z => z)
  case F =>
    intro w mg fa h Y KX G hmg
    refine' Um.all_mk KX G hmg ?a1 ?l1 ?c1 ?k1 ?a2 ?l2 ?c2 ?k2 ?a3 ?l3 ?c3 ?k3 ?a4 ?l4 ?c4 ?k4 ?a5 ?l5 ?c5 ?k5 ?a6 ?l6 ?c6 ?k6 ?z1 ?z2 ?y1 ?y2
    (case a1 => k_is); (case l1 => k_is); (case c1 => k_is); (case k1 => k_is)
    (case a2 => k_is); (case l2 => k_is); (case c2 => k_is); (case k2 => k_is)
    (case a3 => k_is); (case l3 => k_is); (case c3 => k_is); (case k3 => k_is)
    (case a4 => k_is); (case l4 => k_is); (case c4 => k_is); (case k4 => k_is)
    (case a5 => k_is); (case l5 => k_is); (case c5 => k_is); (case k5 => k_is)
    (case a6 => k_is); (case l6 => k_is); (case c6 => k_is); (case k6 => k_is)
    (case z1 => k_is); (case z2 => k_is); (case y1 => k_is); (case y2 => k_is)
  case S =>
    intro K H xs a hO hwi hask hx
    obtain ⟨n, m, l, u⟩ := a
    cases hx with
    | cons h1 hx =>
      cases h1
      cases hx with
      | cons h2 hx =>
        cases h2
        cases hx with
        | cons h3 hx =>
          cases hx
          cases h3 with
          | lst hs ha =>
            have e := L2.ints_dw l _ ha
            subst e
            have q : (Codec.inInt 0 4294967295 n && (Codec.inInt 0 4294967295 m && ((Codec.inLen 0 84 l && l.all (Codec.inInt 0 4294967295)) && true))) = true := hwi
            rw [Bool.and_eq_true, Bool.and_eq_true, Bool.and_eq_true, Bool.and_eq_true] at q
            obtain ⟨q1, q2, ⟨q3, q4⟩, _⟩ := q
            have r1 : 0 ≤ n := (Codec.inInt_iff.mp q1).1
            have r2 : 0 ≤ m := (Codec.inInt_iff.mp q2).1
            have r4 : ∀ x ∈ l, 0 ≤ x := fun x hx => (Codec.inInt_iff.mp (List.all_eq_true.mp q4 x hx)).1
            refine ⟨n, m, _, l, rfl, hs, (Codec.inNat_iff.mp q3).2, r1, r2, r4, fun H' p hp => ?_⟩
            refine .lst (L2.SqL.of hp) ?_
            have e : PyKys2.chance n m l = Um.chance n m l := Um.chance_is r1 r2 r4
            rw [← e]
            exact L2.dw_ints _
#print axioms PySem.Challenge.cw_unwantedmail_s01_chance_holds

