import PyProof.Rows.All
import Wide.All
import OpenK.AllK
import Wide.FinOn
import Open.SpecLaws
import KE.OsGo
import KE.OsHead
import HandS.ForSpec
import HandS.Iter
import HandS.Text
import HandS.Rev
import PySem.Challenge.RW_learningdoor_s01_answers
set_option Elab.async false
set_option linter.all false
/-! Bits, bytes and the tag: plain numbers. -/
namespace LD
open Ks345

/-! ### numbers below 2^64 -/
def Ok (v : Four) : Prop := v.a < 2 ^ 64 ∧ v.b < 2 ^ 64 ∧ v.c < 2 ^ 64 ∧ v.d < 2 ^ 64
theorem add_lt (a b : Nat) : add a b < 2 ^ 64 := Nat.mod_lt _ (by decide)
theorem turn_or {n x : Nat} (h : x < 2 ^ 64) (_h1 : 0 < n) (h2 : n < 64) : turn n x = (x * 2 ^ n % 2 ^ 64) ||| (x / 2 ^ (64 - n)) := by
  unfold turn W
  have e : 2 ^ 64 = 2 ^ (64 - n) * 2 ^ n := by rw [← Nat.pow_add]; congr 1; omega
  have hm : x * 2 ^ n % 2 ^ 64 = 2 ^ n * (x % 2 ^ (64 - n)) := by
    rw [e, Nat.mul_mod_mul_right, Nat.mul_comm]
  have hd : x / 2 ^ (64 - n) < 2 ^ n := by
    rw [Nat.div_lt_iff_lt_mul (Nat.two_pow_pos _), Nat.mul_comm, ← e]; exact h
  rw [hm]
  exact Nat.two_pow_add_eq_or_of_lt hd _
theorem turn_lt {n x : Nat} (h : x < 2 ^ 64) (h1 : 0 < n) (h2 : n < 64) : turn n x < 2 ^ 64 := by
  rw [turn_or h h1 h2]
  refine Nat.or_lt_two_pow (Nat.mod_lt _ (by decide)) ?_
  exact Nat.lt_of_le_of_lt (Nat.div_le_self _ _) h
/-- what the program reckons: shifted both ways, joined, cut at 64 bits -/
theorem turn_is {n x : Nat} (h : x < 2 ^ 64) (h1 : 0 < n) (h2 : n < 64) : ((x * 2 ^ n) ||| (x / 2 ^ (64 - n))) &&& 18446744073709551615 = turn n x := by
  rw [show (18446744073709551615 : Nat) = 2 ^ 64 - 1 from rfl, Nat.and_two_pow_sub_one_eq_mod, Nat.or_mod_two_pow, turn_or h h1 h2]
  congr 1
  exact Nat.mod_eq_of_lt (Nat.lt_of_le_of_lt (Nat.div_le_self _ _) h)
theorem add_is (a b : Nat) : (a + b) &&& 18446744073709551615 = add a b := by
  rw [show (18446744073709551615 : Nat) = 2 ^ 64 - 1 from rfl, Nat.and_two_pow_sub_one_eq_mod]
  rfl
theorem xor_lt {a b : Nat} (ha : a < 2 ^ 64) (hb : b < 2 ^ 64) : a ^^^ b < 2 ^ 64 := Nat.xor_lt_two_pow ha hb

/-! ### the round, step by step as the program has it -/
def r1 (v : Four) : Four := { v with a := add v.a v.b }
def r2 (v : Four) : Four := { v with b := turn 13 v.b ^^^ v.a }
def r3 (v : Four) : Four := { v with a := turn 32 v.a }
def r4 (v : Four) : Four := { v with c := add v.c v.d }
def r5 (v : Four) : Four := { v with d := turn 16 v.d ^^^ v.c }
def r6 (v : Four) : Four := { v with a := add v.a v.d }
def r7 (v : Four) : Four := { v with d := turn 21 v.d ^^^ v.a }
def r8 (v : Four) : Four := { v with c := add v.c v.b }
def r9 (v : Four) : Four := { v with b := turn 17 v.b ^^^ v.c }
def r10 (v : Four) : Four := { v with c := turn 32 v.c }
theorem r1_ok {v : Four} (h : Ok v) : Ok (r1 v) := ⟨add_lt _ _, h.2⟩
theorem ok_mk {a b c d : Nat} (ha : a < 2 ^ 64) (hb : b < 2 ^ 64) (hc : c < 2 ^ 64) (hd : d < 2 ^ 64) : Ok ⟨a, b, c, d⟩ := ⟨ha, hb, hc, hd⟩
theorem xt {n x y : Nat} (hx : x < 2 ^ 64) (h1 : 0 < n) (h2 : n < 64) (hy : y < 2 ^ 64) : turn n x ^^^ y < 2 ^ 64 := xor_lt (turn_lt hx h1 h2) hy
theorem r2_ok {v : Four} (h : Ok v) : Ok (r2 v) := by
  unfold r2
  exact ok_mk h.1 (xt h.2.1 (by decide) (by decide) h.1) h.2.2.1 h.2.2.2
theorem r3_ok {v : Four} (h : Ok v) : Ok (r3 v) := ⟨turn_lt h.1 (by decide) (by decide), h.2⟩
theorem r4_ok {v : Four} (h : Ok v) : Ok (r4 v) := ⟨h.1, h.2.1, add_lt _ _, h.2.2.2⟩
theorem r5_ok {v : Four} (h : Ok v) : Ok (r5 v) := by
  unfold r5
  exact ok_mk h.1 h.2.1 h.2.2.1 (xt h.2.2.2 (by decide) (by decide) h.2.2.1)
theorem r6_ok {v : Four} (h : Ok v) : Ok (r6 v) := ⟨add_lt _ _, h.2⟩
theorem r7_ok {v : Four} (h : Ok v) : Ok (r7 v) := by
  unfold r7
  exact ok_mk h.1 h.2.1 h.2.2.1 (xt h.2.2.2 (by decide) (by decide) h.1)
theorem r8_ok {v : Four} (h : Ok v) : Ok (r8 v) := ⟨h.1, h.2.1, add_lt _ _, h.2.2.2⟩
theorem r9_ok {v : Four} (h : Ok v) : Ok (r9 v) := by
  unfold r9
  exact ok_mk h.1 (xt h.2.1 (by decide) (by decide) h.2.2.1) h.2.2.1 h.2.2.2
theorem r10_ok {v : Four} (h : Ok v) : Ok (r10 v) := ⟨h.1, h.2.1, turn_lt h.2.2.1 (by decide) (by decide), h.2.2.2⟩
theorem round_is (v : Four) : round v = r10 (r9 (r8 (r7 (r6 (r5 (r4 (r3 (r2 (r1 v))))))))) := rfl
theorem round_ok {v : Four} (h : Ok v) : Ok (round v) := by
  rw [round_is]
  exact r10_ok (r9_ok (r8_ok (r7_ok (r6_ok (r5_ok (r4_ok (r3_ok (r2_ok (r1_ok h)))))))))
theorem rounds_z (v : Four) : rounds 0 v = v := rfl
theorem rounds_s (n : Nat) (v : Four) : rounds (n + 1) v = rounds n (round v) := by
  delta rounds
  rfl
theorem rounds_ok : ∀ (n : Nat) (v : Four), Ok v → Ok (rounds n v) := by
  intro n
  induction n with
  | zero =>
    intro v h
    rw [rounds_z]
    exact h
  | succ n ih =>
    intro v h
    rw [rounds_s]
    exact ih _ (round_ok h)
theorem rounds_succ : ∀ (n : Nat) (v : Four), rounds (n + 1) v = round (rounds n v) := by
  intro n
  induction n with
  | zero =>
    intro v
    rw [rounds_s, rounds_z, rounds_z]
  | succ n ih =>
    intro v
    rw [rounds_s, ih, rounds_s]

/-! ### bytes -/
def B8 (l : List Nat) : Prop := ∀ x ∈ l, x < 256
theorem B8.take {l : List Nat} (h : B8 l) (n : Nat) : B8 (l.take n) := fun x q => h x (List.mem_of_mem_take q)
theorem B8.drop {l : List Nat} (h : B8 l) (n : Nat) : B8 (l.drop n) := fun x q => h x (List.mem_of_mem_drop q)
theorem number_lt : ∀ {l : List Nat}, B8 l → number l < 256 ^ l.length
  | [], _ => by decide
  | b :: l, h => by
    have ih := number_lt (l := l) fun x q => h x (List.mem_cons_of_mem _ q)
    have hb := h b (List.mem_cons_self ..)
    show b + 256 * number l < 256 ^ (l.length + 1)
    rw [Nat.pow_succ]
    omega
theorem bytes_number : ∀ {l : List Nat}, B8 l → bytes l.length (number l) = l
  | [], _ => rfl
  | b :: l, h => by
    have ih := bytes_number (l := l) fun x q => h x (List.mem_cons_of_mem _ q)
    have hb := h b (List.mem_cons_self ..)
    show (b + 256 * number l) % 256 :: bytes l.length ((b + 256 * number l) / 256) = b :: l
    rw [show (b + 256 * number l) % 256 = b by omega, show (b + 256 * number l) / 256 = number l by omega, ih]
theorem number_bytes : ∀ (k n : Nat), n < 256 ^ k → number (bytes k n) = n
  | 0, n, h => by
    have : n = 0 := by simpa using h
    subst this
    rfl
  | k + 1, n, h => by
    show n % 256 + 256 * number (bytes k (n / 256)) = n
    rw [number_bytes k (n / 256) (by rw [Nat.div_lt_iff_lt_mul (by decide), ← Nat.pow_succ]; exact h)]
    omega
theorem bytes_len : ∀ (k n : Nat), (bytes k n).length = k
  | 0, _ => rfl
  | k + 1, n => by
    show (bytes k (n / 256)).length + 1 = k + 1
    rw [bytes_len k]
theorem bytes_B8 : ∀ (k n : Nat), B8 (bytes k n)
  | 0, _ => fun _ q => by cases q
  | k + 1, n => fun x q => by
    rcases List.mem_cons.mp q with rfl | q
    · exact Nat.mod_lt _ (by decide)
    · exact bytes_B8 k _ x q
/-- one byte more, as the loop appends it -/
theorem bytes_snoc : ∀ (k n : Nat), bytes (k + 1) n = bytes k n ++ [n / 2 ^ (8 * k) % 256]
  | 0, n => by
    show [n % 256] = [n / 2 ^ 0 % 256]
    rw [Nat.pow_zero, Nat.div_one]
  | k + 1, n => by
    show n % 256 :: bytes (k + 1) (n / 256) = n % 256 :: (bytes k (n / 256) ++ [n / 2 ^ (8 * (k + 1)) % 256])
    rw [bytes_snoc k, Nat.div_div_eq_div_mul, show (256 : Nat) * 2 ^ (8 * k) = 2 ^ (8 * (k + 1)) by rw [show (256 : Nat) = 2 ^ 8 from rfl, ← Nat.pow_add]; congr 1; omega]
/-- number, from the back: one byte more in front -/
theorem number_back {l : List Nat} {i : Nat} (h : i < l.length) (hx : l[l.length - 1 - i]? = some x) : number (l.drop (l.length - (i + 1))) = number (l.drop (l.length - i)) * 256 + x := by
  have e : l.length - (i + 1) = l.length - 1 - i := by omega
  have hlt : l.length - 1 - i < l.length := by omega
  rw [List.getElem?_eq_getElem hlt] at hx
  rw [e, List.drop_eq_getElem_cons hlt, Option.some.inj hx, show l.length - 1 - i + 1 = l.length - i by omega]
  show x + 256 * number _ = _
  omega

/-! ### the tag of eight bytes -/
theorem begun_ok {key : List Nat} (h : B8 key) (hl : key.length = 16) : Ok (begun key) := by
  have h1 := number_lt (h.take 8)
  have h2 := number_lt (h.drop 8)
  rw [List.length_take, hl, show (256 : Nat) ^ min 8 16 = 2 ^ 64 from rfl] at h1
  rw [List.length_drop, hl, show (256 : Nat) ^ (16 - 8) = 2 ^ 64 from rfl] at h2
  exact ⟨xor_lt h1 (by decide), xor_lt h2 (by decide), xor_lt h1 (by decide), xor_lt h2 (by decide)⟩
/-- a word taken in, in three steps as the program has it -/
def w1 (v : Four) (m : Nat) : Four := { v with d := v.d ^^^ m }
def w2 (v : Four) (m : Nat) : Four := { v with a := v.a ^^^ m }
theorem w1_ok {v : Four} {m : Nat} (h : Ok v) (hm : m < 2 ^ 64) : Ok (w1 v m) := by
  unfold w1
  exact ok_mk h.1 h.2.1 h.2.2.1 (xor_lt h.2.2.2 hm)
theorem w2_ok {v : Four} {m : Nat} (h : Ok v) (hm : m < 2 ^ 64) : Ok (w2 v m) := by
  unfold w2
  exact ok_mk (xor_lt h.1 hm) h.2.1 h.2.2.1 h.2.2.2
theorem word_is (v : Four) (m : Nat) : word v m = w2 (rounds 2 (w1 v m)) m := by
  unfold word w1 w2
  rfl
theorem word_ok {v : Four} {m : Nat} (h : Ok v) (hm : m < 2 ^ 64) : Ok (word v m) := by
  rw [word_is]
  exact w2_ok (rounds_ok 2 _ (w1_ok h hm)) hm
/-- the words of a message of eight bytes -/
def words (m : List Nat) : List Nat := [number m, 8 * 2 ^ 56]
theorem taken_8 {v : Four} {m : List Nat} (h : m.length = 8) : taken (m.length / 8 + 1) m.length v m = (words m).foldl word v := by
  rw [h]
  show (if m.length < 8 then _ else taken 1 8 (word v (number (m.take 8))) (m.drop 8)) = _
  rw [if_neg (by omega)]
  have ht : m.take 8 = m := List.take_of_length_le (by omega)
  have hd : m.drop 8 = [] := List.drop_eq_nil_of_le (by omega)
  rw [ht, hd]
  rfl
def f1 (v : Four) : Four := { v with c := v.c ^^^ 255 }
def finish (v : Four) : Four := rounds 4 (f1 v)
theorem finish_is (v : Four) : finish v = rounds 4 (f1 v) := rfl
theorem f1_ok {v : Four} (h : Ok v) : Ok (f1 v) := by
  unfold f1
  exact ok_mk h.1 h.2.1 (xor_lt h.2.2.1 (by decide)) h.2.2.2
def out (w : Four) : Nat := w.a ^^^ w.b ^^^ w.c ^^^ w.d
theorem tag_gen (R : Four → Four) (A : Four) : (let v := A
    let w := R { v with c := v.c ^^^ 255 }
    w.a ^^^ (w.b ^^^ (w.c ^^^ w.d))) = out (R (f1 A)) := by
  unfold out f1
  show (R _).a ^^^ ((R _).b ^^^ ((R _).c ^^^ (R _).d)) = _
  rw [Nat.xor_assoc, Nat.xor_assoc]
theorem tag_8 {key m : List Nat} (h : m.length = 8) : tag key m = out (finish ((words m).foldl word (begun key))) := by
  have e := (tag.eq_1 key m).trans (tag_gen (rounds 4) (taken (m.length / 8 + 1) m.length (begun key) m))
  rw [taken_8 h] at e
  exact e
theorem words_lt {m : List Nat} (h : B8 m) (hl : m.length = 8) : ∀ w ∈ words m, w < 2 ^ 64 := fun w q => by
  have h1 := number_lt h
  rw [hl, show (256 : Nat) ^ 8 = 2 ^ 64 from rfl] at h1
  rcases List.mem_cons.mp q with rfl | q
  · exact h1
  · rcases List.mem_cons.mp q with rfl | q
    · decide
    · cases q
theorem fold_ok : ∀ {l : List Nat} {v : Four}, Ok v → (∀ w ∈ l, w < 2 ^ 64) → Ok (l.foldl word v)
  | [], _, h, _ => h
  | w :: l, _, h, hl => fold_ok (l := l) (word_ok h (hl w (List.mem_cons_self ..))) fun x q => hl x (List.mem_cons_of_mem _ q)
theorem finish_ok {v : Four} (h : Ok v) : Ok (finish v) := rounds_ok 4 _ (f1_ok h)
theorem out_lt {v : Four} (h : Ok v) : out v < 2 ^ 64 := xor_lt (xor_lt (xor_lt h.1 h.2.1) h.2.2.1) h.2.2.2
theorem tag_lt {key m : List Nat} (hk : B8 key) (hkl : key.length = 16) (hm : B8 m) (hl : m.length = 8) : tag key m < 2 ^ 64 := by
  rw [tag_8 hl]
  exact out_lt (finish_ok (fold_ok (begun_ok hk hkl) (words_lt hm hl)))
end LD

/-! Cards, the door, and how a list of calls is read: plain Lean. -/
namespace LD
open Ks345 Ks346

/-! ### cards -/
def forRoom (kind : Nat) : Bool := decide (kind = 1) || decide (kind = 3)
def hasPlace (kind place : Nat) : Bool :=
  if forRoom kind = true then decide (place ≤ 63) else if kind = 2 then decide (1 ≤ place) else if kind = 4 then decide (place = 255) else false
def isCard (key b : List Nat) : Bool :=
  if b.length = 16 then (if hasPlace (b.getD 0 0) (b.getD 1 0) = true then decide (b.drop 8 = bytes 8 (tag key (b.take 8))) else false) else false
theorem forRoom_iff {k : Nat} : forRoom k = true ↔ k = 1 ∨ k = 3 := by simp [forRoom]
theorem getD_lt {b : List Nat} (h : B8 b) (i : Nat) : b.getD i 0 < 256 := by
  rw [List.getD_eq_getElem?_getD]
  cases e : b[i]? with
  | none => exact (by decide : (0 : Nat) < 256)
  | some x => exact h x (List.mem_of_getElem? e)
theorem two_lt {b : List Nat} (h : B8 b) : number (b.take 2) < 65536 := by
  have h1 := number_lt (h.take 2)
  have h2 : (b.take 2).length ≤ 2 := by rw [List.length_take]; omega
  have h3 : 256 ^ (b.take 2).length ≤ 256 ^ 2 := Nat.pow_le_pow_right (by decide) h2
  have h4 : (256 : Nat) ^ 2 = 65536 := rfl
  omega
theorem okCard_is {b : List Nat} (h : B8 b) : okCard (cardOf b) = hasPlace (b.getD 0 0) (b.getD 1 0) := by
  have n1 : number ((b.drop 2).take 2) < 65536 := two_lt (h.drop 2)
  have n2 : number ((b.drop 4).take 2) < 65536 := two_lt (h.drop 4)
  have n3 : number ((b.drop 6).take 2) < 65536 := two_lt (h.drop 6)
  have hp := getD_lt h 1
  unfold okCard cardOf hasPlace ROOMS
  dsimp only
  rw [decide_eq_true n1, decide_eq_true n2, decide_eq_true n3, Bool.true_and, Bool.true_and, Bool.true_and]
  generalize b.getD 0 0 = k at *
  generalize b.getD 1 0 = p at *
  by_cases c : k = 1 ∨ k = 3
  · rw [if_pos c, if_pos (forRoom_iff.mpr c)]
    exact decide_eq_decide.mpr (by omega)
  · rw [if_neg c, if_neg (fun q => c (forRoom_iff.mp q))]
    by_cases c2 : k = 2
    · rw [if_pos c2, if_pos c2, decide_eq_true hp, Bool.and_true]
    · rw [if_neg c2, if_neg c2]
      by_cases c4 : k = 4
      · rw [if_pos c4, c4]
        by_cases q : p = 255 <;> simp [q]
      · rw [if_neg c4]
        have : (k == 4) = false := by simpa using c4
        rw [this, Bool.false_and]
theorem look_is {key b : List Nat} (hk : B8 key) (hkl : key.length = 16) (h : B8 b) : look key b = if isCard key b = true then some (cardOf b) else none := by
  have tg : b.length = 16 → (number (b.drop 8) = tag key (b.take 8) ↔ b.drop 8 = bytes 8 (tag key (b.take 8))) := fun hl => by
    have hd : (b.drop 8).length = 8 := by rw [List.length_drop, hl]
    have ht : (b.take 8).length = 8 := by rw [List.length_take, hl]; rfl
    constructor
    · intro e
      have := bytes_number (h.drop 8)
      rw [hd, e] at this
      exact this.symm
    · intro e
      rw [e]
      exact number_bytes 8 _ (tag_lt hk hkl (h.take 8) ht)
  have ok16 : okBytes CARD b = true ↔ b.length = 16 := by
    unfold okBytes CARD
    rw [Bool.and_eq_true, beq_iff_eq, List.all_eq_true]
    exact ⟨fun q => q.1, fun q => ⟨q, fun x hx => decide_eq_true (h x hx)⟩⟩
  unfold look isCard
  rw [okCard_is h]
  by_cases c : b.length = 16
  · rw [if_pos c]
    by_cases c2 : hasPlace (b.getD 0 0) (b.getD 1 0) = true
    · rw [if_pos c2]
      by_cases c3 : b.drop 8 = bytes 8 (tag key (b.take 8))
      · rw [if_pos ⟨ok16.mpr c, c2, (tg c).mpr c3⟩, if_pos (decide_eq_true c3)]
      · rw [if_neg fun q => c3 ((tg c).mp q.2.2), if_neg fun q => c3 (of_decide_eq_true q)]
    · rw [if_neg fun q => c2 q.2.1, if_neg c2, if_neg Bool.false_ne_true]
  · rw [if_neg fun q => c (ok16.mp q.1), if_neg c, if_neg Bool.false_ne_true]
theorem kind_of {key b : List Nat} (h : isCard key b = true) : b.length = 16 ∧ ((cardOf b).kind = 1 ∨ (cardOf b).kind = 2 ∨ (cardOf b).kind = 3 ∨ (cardOf b).kind = 4) := by
  unfold isCard at h
  by_cases c : b.length = 16
  · refine ⟨c, ?_⟩
    rw [if_pos c] at h
    by_cases c2 : hasPlace (b.getD 0 0) (b.getD 1 0) = true
    · unfold hasPlace at c2
      show b.getD 0 0 = 1 ∨ b.getD 0 0 = 2 ∨ b.getD 0 0 = 3 ∨ b.getD 0 0 = 4
      generalize b.getD 0 0 = k at *
      by_cases d : k = 1 ∨ k = 3
      · omega
      · rw [if_neg fun q => d (forRoom_iff.mp q)] at c2
        by_cases d2 : k = 2
        · omega
        · rw [if_neg d2] at c2
          by_cases d4 : k = 4
          · omega
          · rw [if_neg d4] at c2
            cases c2
    · rw [if_neg c2] at h
      cases h
  · rw [if_neg c] at h
    cases h

/-! ### what a door does -/
def isMeant (a : Abs) (c : Card) : Bool :=
  if forRoom c.kind = true then decide (c.place = a.room) else if c.kind = 2 then decide (c.place / 2 ^ a.zone % 2 = 1) else true
def newest (a : Abs) (c : Card) : Nat := if forRoom c.kind = true then a.number else a.epoch
def judge (a : Abs) (c : Card) : Int :=
  if isMeant a c = true then
    (if c.last < a.day then -34 else if c.number < newest a c then -17 else if a.bolted = true ∧ (c.kind = 1 ∨ c.kind = 2) then -15 else (c.kind : Int))
  else -13
/-- what it learns, ahead of the book -/
def lrn1 (a : Abs) (c : Card) : Abs := if forRoom c.kind = true then { a with number := c.number } else { a with epoch := c.number }
def lrn2 (a : Abs) (c : Card) : Abs := if c.kind = 4 then { a with bolted := false } else a
def learn (a : Abs) (c : Card) : Abs := wrote (lrn2 (lrn1 a c) c) c
theorem shown_is {a : Abs} {c : Card} (h : c.kind = 1 ∨ c.kind = 2 ∨ c.kind = 3 ∨ c.kind = 4) :
    shown a c = (if 0 < judge a c then learn a c else a, judge a c) := by
  have ht : c.place.testBit a.zone = decide (c.place / 2 ^ a.zone % 2 = 1) := Nat.testBit_eq_decide_div_mod_eq
  unfold shown judge isMeant newest learn lrn1 lrn2
  rw [ht]
  clear ht
  generalize c.place / 2 ^ a.zone % 2 = z
  rcases h with h | h | h | h
  · rw [h]
    cases hb : a.bolted <;> by_cases c1 : c.place = a.room <;> by_cases c2 : c.last < a.day <;> by_cases c3 : c.number < a.number <;> simp [forRoom, c1, c2, c3]
  · rw [h]
    cases hb : a.bolted <;> by_cases c1 : z = 1 <;> by_cases c2 : c.last < a.day <;> by_cases c3 : c.number < a.epoch <;> simp [forRoom, c1, c2, c3]
  · rw [h]
    cases hb : a.bolted <;> by_cases c1 : c.place = a.room <;> by_cases c2 : c.last < a.day <;> by_cases c3 : c.number < a.number <;> simp [forRoom, c1, c2, c3]
  · rw [h]
    cases hb : a.bolted <;> by_cases c2 : c.last < a.day <;> by_cases c3 : c.number < a.epoch <;> simp [forRoom, c2, c3]
/-- the book: the program keeps it the other way round -/
def entryOf (a : Abs) (c : Card) : Entry := ⟨c.kind, c.number, c.serial, a.day⟩
theorem wrote_book {a : Abs} {c : Card} (h : a.book.length ≤ 16) : (wrote a c).book.reverse =
    if 16 < (a.book.reverse ++ [entryOf a c]).length then (a.book.reverse ++ [entryOf a c]).eraseIdx 0 else a.book.reverse ++ [entryOf a c] := by
  show ((entryOf a c :: a.book).take 16).reverse = _
  have e : a.book.reverse ++ [entryOf a c] = (entryOf a c :: a.book).reverse := by rw [List.reverse_cons]
  rw [e]
  by_cases c1 : 16 < ((entryOf a c :: a.book).reverse).length
  · rw [if_pos c1, List.eraseIdx_zero, List.tail_reverse, List.dropLast_eq_take]
    have : (entryOf a c :: a.book).length - 1 = 16 := by
      rw [List.length_reverse] at c1
      simp only [List.length_cons] at c1 ⊢
      omega
    rw [this]
  · rw [if_neg c1, List.take_of_length_le]
    rw [List.length_reverse] at c1
    omega
theorem wrote_len (a : Abs) (c : Card) : (wrote a c).book.length ≤ 16 := by
  show ((entryOf a c :: a.book).take 16).length ≤ 16
  rw [List.length_take]
  omega

/-- what holds of a door at any time -/
structure Good (a : Abs) : Prop where
  k16 : a.key.length = 16
  k8 : B8 a.key
  zone : a.zone ≤ 7
  book : a.book.length ≤ 16
theorem Good.on {a : Abs} (h : Good a) : a.on = true := by
  have e := h.k16
  unfold Abs.on
  cases k : a.key with
  | nil =>
    rw [k] at e
    cases e
  | cons x r => rfl
theorem lrn_fields (a : Abs) (c : Card) : (lrn2 (lrn1 a c) c).key = a.key ∧ (lrn2 (lrn1 a c) c).zone = a.zone ∧ (lrn2 (lrn1 a c) c).book = a.book ∧ (lrn2 (lrn1 a c) c).day = a.day ∧ (lrn2 (lrn1 a c) c).room = a.room := by
  unfold lrn2 lrn1
  split <;> split <;> exact ⟨rfl, rfl, rfl, rfl, rfl⟩
theorem Good.learn {a : Abs} (h : Good a) (c : Card) : Good (learn a c) := by
  obtain ⟨e1, e2, _, _⟩ := lrn_fields a c
  refine ⟨?_, ?_, ?_, wrote_len _ _⟩
  · show (lrn2 (lrn1 a c) c).key.length = 16
    rw [e1]
    exact h.k16
  · show B8 (lrn2 (lrn1 a c) c).key
    rw [e1]
    exact h.k8
  · show (lrn2 (lrn1 a c) c).zone ≤ 7
    rw [e2]
    exact h.zone
end LD

/-! How a list of calls is read: any list that may be handed in is one list of typed calls, told one behind another. -/
namespace LD
open Ks346

def intL (l : List Nat) : List Int := l.map Int.ofNat
/-- a call as it stands in the list -/
def enc : Call → List Int
  | .begin k r z => 0 :: (r : Int) :: (z : Int) :: (k.length : Int) :: intL k
  | .day d => [1, (d : Int)]
  | .open_ b => 2 :: (b.length : Int) :: intL b
  | .would b => 3 :: (b.length : Int) :: intL b
  | .bolt v => [4, (v : Int)]
  | .book k => [5, (k : Int)]
  | .state => [6]
def raw : Call → List (List Int)
  | .begin k r z => [[0, (r : Int), (z : Int)], intL k]
  | .day d => [[1, (d : Int)]]
  | .open_ b => [[2], intL b]
  | .would b => [[3], intL b]
  | .bolt v => [[4, (v : Int)]]
  | .book k => [[5, (k : Int)]]
  | .state => [[6]]
/-- a call's bounds -/
def CallOk : Call → Prop
  | .begin k _ _ => B8 k ∧ k.length ≤ 100
  | .open_ b => B8 b ∧ b.length ≤ 100
  | .would b => B8 b ∧ b.length ≤ 100
  | _ => True
def said (x : Ans) : List Int := x.ret :: intL x.out
/-- the answers, one call behind another -/
def runs : Abs → List Call → List (List Int)
  | _, [] => []
  | s, c :: r => said (act s c).2 :: runs (act s c).1 r
def after : Abs → List Call → Abs
  | s, [] => s
  | s, c :: r => after (act s c).1 r
theorem after_app : ∀ (l : List Call) (s : Abs) (c : Call), after s (l ++ [c]) = (act (after s l) c).1
  | [], _, _ => rfl
  | d :: l, s, c => after_app l (act s d).1 c
theorem runs_app : ∀ (l : List Call) (s : Abs) (c : Call), runs s (l ++ [c]) = runs s l ++ [said (act (after s l) c).2]
  | [], _, _ => rfl
  | d :: l, s, c => by
    show said (act s d).2 :: runs (act s d).1 (l ++ [c]) = said (act s d).2 :: (runs (act s d).1 l ++ [_])
    rw [runs_app l]
    rfl

theorem nats_ints (l : List Nat) : Ks346Neutral.nats (intL l) = l := by
  unfold Ks346Neutral.nats intL
  rw [List.map_map]
  induction l with
  | nil => rfl
  | cons a l ih =>
    rw [List.map_cons, ih]
    rfl
theorem ints_back : ∀ {l : List Int}, (∀ x ∈ l, (0 : Int) ≤ x) → intL (l.map Int.toNat) = l
  | [], _ => rfl
  | a :: l, h => by
    have ha := h a (List.mem_cons_self ..)
    have ih := ints_back (l := l) fun x q => h x (List.mem_cons_of_mem _ q)
    show Int.ofNat a.toNat :: intL (l.map Int.toNat) = a :: l
    rw [ih]
    congr 1
    exact Int.toNat_of_nonneg ha
theorem ints_len (l : List Nat) : (intL l).length = l.length := List.length_map ..
theorem step_raw (s : Abs) (c : Call) : Ks346Neutral.step s (raw c) = ((act s c).1, said (act s c).2) := by
  cases c with
  | begin k r z =>
    show Ks346Neutral.sa (act s (.begin (Ks346Neutral.nats (intL k)) r z)) = _
    rw [nats_ints]
    rfl
  | open_ b =>
    show Ks346Neutral.sa (act s (.open_ (Ks346Neutral.nats (intL b)))) = _
    rw [nats_ints]
    rfl
  | would b =>
    show Ks346Neutral.sa (act s (.would (Ks346Neutral.nats (intL b)))) = _
    rw [nats_ints]
    rfl
  | day d => rfl
  | bolt v => rfl
  | book k => rfl
  | state => rfl
theorem whole_raw (c : Call) : PyKs346.whole (raw c) = raw c := by cases c <;> rfl
theorem played_raw : ∀ (cs : List Call) (s : Abs), PyFlat.played Ks346Neutral.step s (cs.map raw) = runs s cs
  | [], _ => rfl
  | c :: cs, s => by
    show (Ks346Neutral.step s (raw c)).2 :: PyFlat.played Ks346Neutral.step (Ks346Neutral.step s (raw c)).1 (cs.map raw) = said (act s c).2 :: runs (act s c).1 cs
    rw [step_raw, played_raw cs]

/-! ### reading -/
theorem row_inv {l x t : List Int} (h : PyFlat.row l = some (x, t)) : ∃ n : Int, 0 ≤ n ∧ (x.length : Int) = n ∧ l = n :: (x ++ t) := by
  cases l with
  | nil => cases h
  | cons n r =>
    unfold PyFlat.row at h
    dsimp only at h
    by_cases c : 0 ≤ n ∧ n.toNat ≤ r.length
    · rw [if_pos c] at h
      have e := Option.some.inj h
      have e1 : r.take n.toNat = x := congrArg Prod.fst e
      have e2 : r.drop n.toNat = t := congrArg Prod.snd e
      refine ⟨n, c.1, ?_, ?_⟩
      · rw [← e1, List.length_take, Nat.min_eq_left c.2]
        omega
      · rw [← e1, ← e2, List.take_append_drop]
    · rw [if_neg c] at h
      cases h
theorem rows0_inv {l : List Int} {xs : List (List Int)} {t : List Int} (h : PyFlat.rows 0 l = some (xs, t)) : xs = [] ∧ l = t := by
  have e := Option.some.inj h
  exact ⟨(congrArg Prod.fst e).symm, congrArg Prod.snd e⟩
theorem rows1_inv {l : List Int} {xs : List (List Int)} {t : List Int} (h : PyFlat.rows 1 l = some (xs, t)) : ∃ x, xs = [x] ∧ l = (x.length : Int) :: (x ++ t) := by
  unfold PyFlat.rows at h
  cases e : PyFlat.row l with
  | none =>
    rw [e] at h
    cases h
  | some p =>
    obtain ⟨x, s⟩ := p
    rw [e] at h
    have h' : some ([x], s) = some (xs, t) := h
    have e1 := Option.some.inj h'
    have e2 : [x] = xs := congrArg Prod.fst e1
    have e3 : s = t := congrArg Prod.snd e1
    obtain ⟨n, hn, hl, el⟩ := row_inv e
    refine ⟨x, e2.symm, ?_⟩
    rw [el, hl, e3]
/-- the shapes: none but these seven -/
theorem shape_inv {p : Int} {n k : Nat} (h : PyKs346.shape p = some (n, k)) : (p = 0 ∧ n = 2 ∧ k = 1) ∨ (p = 1 ∧ n = 1 ∧ k = 0) ∨ (p = 2 ∧ n = 0 ∧ k = 1) ∨ (p = 3 ∧ n = 0 ∧ k = 1) ∨ (p = 4 ∧ n = 1 ∧ k = 0) ∨ (p = 5 ∧ n = 1 ∧ k = 0) ∨ (p = 6 ∧ n = 0 ∧ k = 0) := by
  unfold PyKs346.shape at h
  have inj : ∀ {a b : Nat}, some (a, b) = some (n, k) → n = a ∧ k = b := fun e => by
    have e1 := Option.some.inj e
    exact ⟨(congrArg Prod.fst e1).symm, (congrArg Prod.snd e1).symm⟩
  by_cases c0 : p = 0
  · rw [if_pos c0] at h; exact .inl ⟨c0, inj h⟩
  rw [if_neg c0] at h
  by_cases c1 : p = 1
  · rw [if_pos c1] at h; exact .inr (.inl ⟨c1, inj h⟩)
  rw [if_neg c1] at h
  by_cases c2 : p = 2
  · rw [if_pos c2] at h; exact .inr (.inr (.inl ⟨c2, inj h⟩))
  rw [if_neg c2] at h
  by_cases c3 : p = 3
  · rw [if_pos c3] at h; exact .inr (.inr (.inr (.inl ⟨c3, inj h⟩)))
  rw [if_neg c3] at h
  by_cases c4 : p = 4
  · rw [if_pos c4] at h; exact .inr (.inr (.inr (.inr (.inl ⟨c4, inj h⟩))))
  rw [if_neg c4] at h
  by_cases c5 : p = 5
  · rw [if_pos c5] at h; exact .inr (.inr (.inr (.inr (.inr (.inl ⟨c5, inj h⟩)))))
  rw [if_neg c5] at h
  by_cases c6 : p = 6
  · rw [if_pos c6] at h; exact .inr (.inr (.inr (.inr (.inr (.inr ⟨c6, inj h⟩)))))
  rw [if_neg c6] at h
  cases h
theorem within_iff {lo hi z : Int} : PyInside.within lo hi z = true ↔ lo ≤ z ∧ z ≤ hi := by
  unfold PyInside.within
  rw [Bool.and_eq_true, decide_eq_true_iff, decide_eq_true_iff]
theorem bytes_in {x : List Int} (h : x.all (PyInside.within 0 255) = true) : intL (x.map Int.toNat) = x ∧ B8 (x.map Int.toNat) := by
  rw [List.all_eq_true] at h
  refine ⟨ints_back fun y q => (within_iff.mp (h y q)).1, fun y q => ?_⟩
  obtain ⟨z, hz, rfl⟩ := List.mem_map.mp q
  have := within_iff.mp (h z hz)
  omega
/-- a row within its bounds -/
theorem rowIn {x : List Int} {rs : List (List Int)} (h : PyInside.lists [(0, 255, 0, 100)] (x :: rs) = true) : intL (x.map Int.toNat) = x ∧ B8 (x.map Int.toNat) ∧ (x.map Int.toNat).length ≤ 100 ∧ (x.map Int.toNat).length = x.length := by
  unfold PyInside.lists at h
  rw [Bool.and_eq_true, Bool.and_eq_true, Bool.and_eq_true] at h
  have b := bytes_in h.1.2
  refine ⟨b.1, b.2, ?_, List.length_map ..⟩
  rw [List.length_map]
  exact of_decide_eq_true h.1.1.2
theorem numIn {x : Int} {xs : List Int} {b : List (Int × Int)} (h : PyInside.each ((0, 4294967295) :: b) (x :: xs) = true) : ((x.toNat : Nat) : Int) = x ∧ PyInside.each b xs = true := by
  unfold PyInside.each at h
  rw [Bool.and_eq_true] at h
  exact ⟨Int.toNat_of_nonneg (within_iff.mp h.1).1, h.2⟩
theorem call_inv {p : Int} {r t : List Int} {c : List (List Int)} (h : PyFlat.call PyKs346.shape (p :: r) = some (c, t)) (hi : PyInside.call PyKs346.bound c = true) :
    ∃ d : Call, c = raw d ∧ p :: r = enc d ++ t ∧ CallOk d := by
  unfold PyFlat.call at h
  dsimp only at h
  cases hs : PyKs346.shape p with
  | none =>
    rw [hs] at h
    cases h
  | some nk =>
    obtain ⟨n, k⟩ := nk
    rw [hs] at h
    have h1 : (if r.length < n then none else match PyFlat.rows k (r.drop n) with
      | none => none
      | some (xs, t) => some ((p :: r.take n) :: xs, t)) = some (c, t) := h
    by_cases hl : r.length < n
    · rw [if_pos hl] at h1
      cases h1
    rw [if_neg hl] at h1
    cases hr : PyFlat.rows k (r.drop n) with
    | none =>
      rw [hr] at h1
      cases h1
    | some q =>
      obtain ⟨xs, t'⟩ := q
      rw [hr] at h1
      have e := Option.some.inj h1
      have ec : (p :: r.take n) :: xs = c := congrArg Prod.fst e
      have et : t' = t := congrArg Prod.snd e
      subst et
      subst ec
      have one : ∀ (m : Nat), n = 1 → k = 0 → ∃ x, r = x :: t' ∧ xs = [] := fun _ hn hk => by
        subst hn
        subst hk
        obtain ⟨e1, e2⟩ := rows0_inv hr
        cases r with
        | nil => exact absurd (by decide : ([] : List Int).length < 1) hl
        | cons x r => exact ⟨x, by rw [← e2]; rfl, e1⟩
      have row : n = 0 → k = 1 → ∃ x, r = (x.length : Int) :: (x ++ t') ∧ xs = [x] := fun hn hk => by
        subst hn
        subst hk
        obtain ⟨x, e1, e2⟩ := rows1_inv hr
        exact ⟨x, e2, e1⟩
      rcases shape_inv hs with ⟨rfl, rfl, rfl⟩ | ⟨rfl, hn, hk⟩ | ⟨rfl, hn, hk⟩ | ⟨rfl, hn, hk⟩ | ⟨rfl, hn, hk⟩ | ⟨rfl, hn, hk⟩ | ⟨rfl, hn, hk⟩
      · obtain ⟨x, e1, e2⟩ := rows1_inv hr
        match r, hl with
        | [], hl => exact absurd (by decide : ([] : List Int).length < 2) hl
        | [_], hl => exact absurd (Nat.lt_succ_self 1) hl
        | x0 :: x1 :: r, _ =>
          subst e1
          have hi' : (PyInside.each [(0, 4294967295), (0, 4294967295)] [x0, x1] && PyInside.lists [(0, 255, 0, 100)] [x]) = true := hi
          rw [Bool.and_eq_true] at hi'
          obtain ⟨n0, hi2⟩ := numIn hi'.1
          obtain ⟨n1, _⟩ := numIn hi2
          obtain ⟨b1, b2, b3, b4⟩ := rowIn hi'.2
          refine ⟨.begin (x.map Int.toNat) x0.toNat x1.toNat, ?_, ?_, b2, b3⟩
          · show [[0, x0, x1], x] = [[0, _, _], _]
            rw [n0, n1, b1]
          · have e2' : r = (x.length : Int) :: (x ++ t') := e2
            show 0 :: x0 :: x1 :: r = 0 :: _ :: _ :: _ :: (_ ++ t')
            rw [n0, n1, b1, b4, e2']
      · obtain ⟨x, e1, e2⟩ := one 0 hn hk
        subst e1 e2 hn
        have hi' : (PyInside.each [(0, 4294967295)] [x] && PyInside.lists [] []) = true := hi
        rw [Bool.and_eq_true] at hi'
        obtain ⟨n0, _⟩ := numIn hi'.1
        refine ⟨.day x.toNat, ?_, ?_, trivial⟩
        · show [[1, x]] = [[1, _]]
          rw [n0]
        · show 1 :: x :: t' = 1 :: _ :: t'
          rw [n0]
      · obtain ⟨x, e1, e2⟩ := row hn hk
        subst e1 e2 hn
        have hi' : (PyInside.each [] [] && PyInside.lists [(0, 255, 0, 100)] [x]) = true := hi
        rw [Bool.and_eq_true] at hi'
        obtain ⟨b1, b2, b3, b4⟩ := rowIn hi'.2
        refine ⟨.open_ (x.map Int.toNat), ?_, ?_, b2, b3⟩
        · show [[2], x] = [[2], _]
          rw [b1]
        · show 2 :: (x.length : Int) :: (x ++ t') = 2 :: _ :: (_ ++ t')
          rw [b1, b4]
      · obtain ⟨x, e1, e2⟩ := row hn hk
        subst e1 e2 hn
        have hi' : (PyInside.each [] [] && PyInside.lists [(0, 255, 0, 100)] [x]) = true := hi
        rw [Bool.and_eq_true] at hi'
        obtain ⟨b1, b2, b3, b4⟩ := rowIn hi'.2
        refine ⟨.would (x.map Int.toNat), ?_, ?_, b2, b3⟩
        · show [[3], x] = [[3], _]
          rw [b1]
        · show 3 :: (x.length : Int) :: (x ++ t') = 3 :: _ :: (_ ++ t')
          rw [b1, b4]
      · obtain ⟨x, e1, e2⟩ := one 0 hn hk
        subst e1 e2 hn
        have hi' : (PyInside.each [(0, 4294967295)] [x] && PyInside.lists [] []) = true := hi
        rw [Bool.and_eq_true] at hi'
        obtain ⟨n0, _⟩ := numIn hi'.1
        refine ⟨.bolt x.toNat, ?_, ?_, trivial⟩
        · show [[4, x]] = [[4, _]]
          rw [n0]
        · show 4 :: x :: t' = 4 :: _ :: t'
          rw [n0]
      · obtain ⟨x, e1, e2⟩ := one 0 hn hk
        subst e1 e2 hn
        have hi' : (PyInside.each [(0, 4294967295)] [x] && PyInside.lists [] []) = true := hi
        rw [Bool.and_eq_true] at hi'
        obtain ⟨n0, _⟩ := numIn hi'.1
        refine ⟨.book x.toNat, ?_, ?_, trivial⟩
        · show [[5, x]] = [[5, _]]
          rw [n0]
        · show 5 :: x :: t' = 5 :: _ :: t'
          rw [n0]
      · subst hn hk
        obtain ⟨e1, e2⟩ := rows0_inv hr
        subst e1
        have e2' : r = t' := e2
        refine ⟨.state, rfl, ?_, trivial⟩
        rw [e2']
        rfl
theorem calls_inv : ∀ (f : Nat) (l : List Int) (rs : List (List (List Int))), PyFlat.calls PyKs346.shape f l = some rs → PyInside.calls PyKs346.bound rs = true →
    ∃ cs : List Call, rs = cs.map raw ∧ l = cs.flatMap enc ∧ ∀ c ∈ cs, CallOk c
  | f, [], rs, h, _ => by
    have h' : some [] = some rs := by
      cases f <;> exact h
    have e := Option.some.inj h'
    exact ⟨[], e.symm, rfl, fun _ q => by cases q⟩
  | 0, _ :: _, _, h, _ => by cases h
  | f + 1, p :: r, rs, h, hi => by
    unfold PyFlat.calls at h
    cases hc : PyFlat.call PyKs346.shape (p :: r) with
    | none =>
      rw [hc] at h
      cases h
    | some q =>
      obtain ⟨c, t⟩ := q
      rw [hc] at h
      have h1 : (match PyFlat.calls PyKs346.shape f t with
        | none => none
        | some cs => some (c :: cs)) = some rs := h
      cases hs : PyFlat.calls PyKs346.shape f t with
      | none =>
        rw [hs] at h1
        cases h1
      | some cs =>
        rw [hs] at h1
        have e := Option.some.inj h1
        subst e
        have hi' : (PyInside.call PyKs346.bound c && cs.all (PyInside.call PyKs346.bound)) = true := hi
        rw [Bool.and_eq_true] at hi'
        obtain ⟨d, e1, e2, e3⟩ := call_inv hc hi'.1
        obtain ⟨ds, g1, g2, g3⟩ := calls_inv f t cs hs hi'.2
        refine ⟨d :: ds, ?_, ?_, fun x q => ?_⟩
        · rw [e1, g1]
          rfl
        · rw [e2, g2]
          rfl
        · rcases List.mem_cons.mp q with rfl | q
          · exact e3
          · exact g3 x q
/-- **Any list that may be handed in** is one list of typed calls; what is due is what they answer. -/
theorem asked_is {l : List Int} (h : PyKs346.answers_asked l = true) : ∃ cs : List Call, l = cs.flatMap enc ∧ (∀ c ∈ cs, CallOk c) ∧ cs.length ≤ 5000 ∧ PyKs346.answers l = PyFlat.told (runs {} cs) := by
  unfold PyKs346.answers_asked at h
  cases e : PyFlat.calls PyKs346.shape l.length l with
  | none =>
    rw [e] at h
    cases h
  | some rs =>
    rw [e] at h
    have h1 : (!rs.isEmpty && PyFlat.atMost 5000 rs && PyInside.calls PyKs346.bound rs && Ks346Neutral.asked (rs.map PyKs346.whole) && PyFlat.short 10000000 (PyKs346.answers l)) = true := h
    rw [Bool.and_eq_true, Bool.and_eq_true, Bool.and_eq_true, Bool.and_eq_true] at h1
    obtain ⟨cs, e1, e2, e3⟩ := calls_inv _ _ _ e h1.1.1.2
    refine ⟨cs, e2, e3, ?_, ?_⟩
    · have := of_decide_eq_true h1.1.1.1.2
      rw [e1, List.length_map] at this
      exact this
    · unfold PyKs346.answers PyKs346.calls
      rw [e]
      show PyFlat.told (PyFlat.played Ks346Neutral.step Ks346Neutral.start (rs.map PyKs346.whole)) = _
      rw [e1, List.map_map]
      have : cs.map (PyKs346.whole ∘ raw) = cs.map raw := List.map_congr_left fun c _ => whole_raw c
      rw [this, played_raw]
      rfl
theorem said_len (s : Abs) (c : Call) : (said (act s c).2).length ≤ 7 := by
  unfold said
  rw [List.length_cons, ints_len]
  cases c with
  | begin k r z =>
    dsimp only [act]
    split <;> exact (by decide : ([] : List Nat).length + 1 ≤ 7)
  | day d =>
    dsimp only [act]
    split
    · exact (by decide : ([] : List Nat).length + 1 ≤ 7)
    split <;> exact (by decide : ([] : List Nat).length + 1 ≤ 7)
  | open_ b =>
    dsimp only [act]
    split
    · exact (by decide : ([] : List Nat).length + 1 ≤ 7)
    split <;> exact (by decide : ([] : List Nat).length + 1 ≤ 7)
  | would b =>
    dsimp only [act]
    split
    · exact (by decide : ([] : List Nat).length + 1 ≤ 7)
    split <;> exact (by decide : ([] : List Nat).length + 1 ≤ 7)
  | bolt v =>
    dsimp only [act]
    split
    · exact (by decide : ([] : List Nat).length + 1 ≤ 7)
    split <;> exact (by decide : ([] : List Nat).length + 1 ≤ 7)
  | book k =>
    dsimp only [act]
    split
    · exact (by decide : ([] : List Nat).length + 1 ≤ 7)
    split
    · exact (by decide : ([] : List Nat).length + 1 ≤ 7)
    · exact (by decide : 3 + 1 ≤ 7)
  | state =>
    dsimp only [act]
    split
    · exact (by decide : ([] : List Nat).length + 1 ≤ 7)
    · exact (by decide : 6 + 1 ≤ 7)
theorem told_app (a b : List (List Int)) : PyFlat.told (a ++ b) = PyFlat.told a ++ PyFlat.told b := List.flatMap_append ..
theorem told_one (a : List Int) : PyFlat.told [a] = (a.length : Int) :: a := by
  show ((a.length : Int) :: a) ++ [] = _
  rw [List.append_nil]
/-- how long the answers are -/
theorem told_len : ∀ (cs : List Call) (s : Abs), (PyFlat.told (runs s cs)).length ≤ 8 * cs.length
  | [], _ => Nat.le_refl _
  | c :: cs, s => by
    have h1 := said_len s c
    have h2 := told_len cs (act s c).1
    show (((said (act s c).2).length : Int) :: said (act s c).2 ++ PyFlat.told (runs (act s c).1 cs)).length ≤ 8 * (cs.length + 1)
    rw [List.length_append, List.length_cons]
    omega
end LD

set_option maxRecDepth 100000
set_option maxHeartbeats 4000000
namespace LD
open PySem PySem.Spec PyProof.Rows L2
open PySem.W (Codec)
/-! ### words about heaps, fields, lists -/
/-- all that was tracked but at these places is as it was -/
def Kept (ex : List Addr) (H H' : Hp) : Prop := ∀ b o, H b = some o → b ∉ ex → H' b = some o
theorem Kept.refl (ex : List Addr) (H : Hp) : Kept ex H H := fun _ _ e _ => e
theorem Kept.trans {ex : List Addr} {H H1 H2 : Hp} (a : Kept ex H H1) (b : Kept ex H1 H2) : Kept ex H H2 := fun c o e n => b c o (a c o e n) n
theorem Kept.mono {ex ex' : List Addr} {H H1 : Hp} (a : Kept ex H H1) (s : ∀ b ∈ ex, b ∈ ex') : Kept ex' H H1 := fun c o e n => a c o e fun q => n (s c q)
theorem Kept.any {ex : List Addr} {H H1 : Hp} (a : Kept [] H H1) : Kept ex H H1 := a.mono fun _ q => nomatch q
theorem Kept.new {ex : List Addr} {H : Hp} {p : Addr} {o : HO} (n : H p = none) : Kept ex H (upd H p o) := fun b u e _ => by
  rw [upd_ne (ne_of_none e n)]
  exact e
theorem Kept.put {ex : List Addr} {H : Hp} {p : Addr} {o : HO} (m : p ∈ ex) : Kept ex H (upd H p o) := fun b u e n => by
  have h : b ≠ p := fun z => by
    subst z
    exact n m
  rw [upd_ne h]
  exact e
/-- what was not there needs no exception -/
theorem Kept.drop {ex : List Addr} {H H1 : Hp} {p : Addr} (a : Kept (p :: ex) H H1) (n : H p = none) : Kept ex H H1 := fun b o e q => a b o e fun z => by
  rcases List.mem_cons.mp z with rfl | z
  · rw [n] at e
    cases e
  · exact q z
theorem Kept.at {ex : List Addr} {H H1 : Hp} (a : Kept ex H H1) {p : Addr} {o : HO} (e : H p = some o) (n : p ∉ ex) : H1 p = some o := a p o e n
theorem Kept.at0 {H H1 : Hp} (a : Kept [] H H1) {p : Addr} {o : HO} (e : H p = some o) : H1 p = some o := a p o e (fun q => nomatch q)
theorem Kept.free {ex : List Addr} {H H1 : Hp} (a : Kept ex H H1) {p : Addr} (n : p ∉ ex) (e : H1 p = none) : H p = none := by
  cases q : H p with
  | none => rfl
  | some o =>
    rw [a p o q n] at e
    cases e
theorem Kept.free0 {H H1 : Hp} (a : Kept [] H H1) {p : Addr} (e : H1 p = none) : H p = none := a.free (fun q => nomatch q) e
theorem Kept.seq {K : PySem.W.Frag} {ex : List Addr} {H H1 : Hp} {a : Addr} {xs : List V} (k : Kept ex H H1) (h : SqL K H a xs) (n : a ∉ ex) : SqL K H1 a xs := by
  rcases h with (h | ⟨o, h⟩) | h
  · exact .inl (.inl (k _ _ h n))
  · exact .inl (.inr ⟨o, k _ _ h n⟩)
  · exact .inr h
theorem Kept.seq0 {K : PySem.W.Frag} {H H1 : Hp} {a : Addr} {xs : List V} (k : Kept [] H H1) (h : SqL K H a xs) : SqL K H1 a xs := k.seq h (fun q => nomatch q)
/-- a new instance, its dict beside it, its __init__ gone through -/
theorem Kept.made {H H1 : Hp} {x dx C : Addr} (nx : H x = none) (nd : H dx = none) (k : Kept [x] (upd (upd H dx (.own x)) x (.ins C dx [])) H1) : Kept [] H H1 :=
  Kept.drop (p := x) (fun b o e n => k b o (by
    have hx : b ≠ x := fun z => by
      subst z
      exact n (List.mem_cons_self ..)
    rw [upd_ne hx, upd_ne (ne_of_none e nd)]
    exact e) n) nx
theorem no1 {a b : Addr} (h : a ≠ b) : a ∉ [b] := fun q => h (List.mem_singleton.mp q)
theorem no2 {a b c : Addr} (h : a ≠ b) (h' : a ≠ c) : a ∉ [b, c] := fun q => by
  rcases List.mem_cons.mp q with e | q
  · exact h e
  · exact no1 h' q
theorem no3 {a b c d : Addr} (h : a ≠ b) (h' : a ≠ c) (h'' : a ≠ d) : a ∉ [b, c, d] := fun q => by
  rcases List.mem_cons.mp q with e | q
  · exact h e
  · exact no2 h' h'' q
/-- a list stands elsewhere than an instance -/
theorem SqL.ne_ins {K : PySem.W.Frag} {H : Hp} {a p C dx : Addr} {xs : List V} {fs : List (Str × V)} (h : Rd H a (.lst xs)) (e : H p = some (.ins C dx fs)) : a ≠ p := fun z => by
  subst z
  rcases h with h | ⟨o, h⟩
  · rw [e] at h
    cases h
  · rw [e] at h
    cases h
/-- fields by their place -/
theorem lk_ix : ∀ {fs : List (Str × V)} {k : Str} {v : V} (i : Nat) (names : List Str), fs.map (·.1) = names → names.findIdx? (· == k) = some i → (fs[i]?).map (·.2) = some v → fs.lookup k = some v
  | [], k, v, i, names, hn, hk, hv => by
    simp at hv
  | (g, x) :: r, k, v, i, names, hn, hk, hv => by
    subst hn
    rw [List.map_cons, List.findIdx?_cons] at hk
    by_cases c : (g == k) = true
    · rw [if_pos c] at hk
      have hi : 0 = i := Option.some.inj hk
      subst hi
      have hv' : some x = some v := hv
      have c' : (k == g) = true := by rw [beq_iff_eq] at c ⊢; exact c.symm
      show (match k == g with | true => some x | false => List.lookup k r) = some v
      rw [c']
      exact hv'
    · rw [if_neg c] at hk
      cases e : (r.map (·.1)).findIdx? (· == k) with
      | none =>
        rw [e] at hk
        cases hk
      | some j =>
        rw [e] at hk
        have hi : j + 1 = i := Option.some.inj hk
        subst hi
        have c' : (k == g) = false := by
          cases q : k == g with
          | false => rfl
          | true => exact absurd (by rw [beq_iff_eq] at q ⊢; exact q.symm) c
        show (match k == g with | true => some x | false => List.lookup k r) = some v
        rw [c']
        exact lk_ix j _ rfl e hv
theorem lk_no : ∀ {fs : List (Str × V)} {k : Str} (names : List Str), fs.map (·.1) = names → names.all (fun g => !(k == g)) = true → fs.lookup k = none
  | [], _, _, _, _ => rfl
  | (g, x) :: r, k, names, hn, hk => by
    subst hn
    rw [List.map_cons, List.all_cons, Bool.and_eq_true] at hk
    have c' : (k == g) = false := by
      have := hk.1
      cases q : k == g with
      | false => rfl
      | true =>
        have q' : (k == g) = true := q
        rw [show ((g, x) : Str × V).1 = g from rfl, q'] at this
        cases this
    show (match k == g with | true => some x | false => List.lookup k r) = none
    rw [c']
    exact lk_no _ rfl hk.2
theorem put_end : ∀ {fs : List (Str × V)} {k : Str} {v : V} (names : List Str), fs.map (·.1) = names → names.all (fun g => !(k == g)) = true → putF k v fs = fs ++ [(k, v)]
  | [], _, _, _, _, _ => rfl
  | (g, x) :: r, k, v, names, hn, hk => by
    subst hn
    rw [List.map_cons, List.all_cons, Bool.and_eq_true] at hk
    have c' : ¬ g = k := fun z => by
      have := hk.1
      rw [show ((g, x) : Str × V).1 = g from rfl, z, beq_self_eq_true] at this
      cases this
    show (if g = k then _ else (g, x) :: putF k v r) = _
    rw [if_neg c', put_end _ rfl hk.2]
    rfl
theorem put_ix : ∀ {fs : List (Str × V)} {k : Str} {v : V} (i : Nat) (names : List Str), fs.map (·.1) = names → names.findIdx? (· == k) = some i → putF k v fs = fs.set i (k, v)
  | [], k, v, i, names, hn, hk => by
    subst hn
    cases hk
  | (g, x) :: r, k, v, i, names, hn, hk => by
    subst hn
    rw [List.map_cons, List.findIdx?_cons] at hk
    by_cases c : g = k
    · rw [if_pos (beq_iff_eq.mpr c)] at hk
      have hi : 0 = i := Option.some.inj hk
      subst hi
      show (if g = k then (g, v) :: r else _) = _
      rw [if_pos c, c]
      rfl
    · rw [if_neg fun z => c (beq_iff_eq.mp z)] at hk
      cases e : (r.map (·.1)).findIdx? (· == k) with
      | none =>
        rw [e] at hk
        cases hk
      | some j =>
        rw [e] at hk
        have hi : j + 1 = i := Option.some.inj hk
        subst hi
        show (if g = k then _ else (g, x) :: putF k v r) = _
        rw [if_neg c, put_ix j _ rfl e]
        rfl
/-- a whole number that isn't negative, as a value; a list of them -/
abbrev nI (n : Nat) : V := .int (n : Int)
def nums (l : List Nat) : List V := l.map nI
theorem nums_len (l : List Nat) : (nums l).length = l.length := List.length_map ..
theorem nums_get {l : List Nat} {i : Nat} {x : V} (h : (nums l)[i]? = some x) : ∃ n, l[i]? = some n ∧ x = nI n := by
  unfold nums at h
  rw [List.getElem?_map] at h
  cases e : l[i]? with
  | none =>
    rw [e] at h
    cases h
  | some n =>
    rw [e] at h
    exact ⟨n, rfl, (Option.some.inj h).symm⟩
theorem nums_at {l : List Nat} {i n : Nat} (h : l[i]? = some n) : atI (nums l) (i : Int) = some (nI n) := atI_nat (by
  unfold nums
  rw [List.getElem?_map, h]
  rfl)
theorem nums_cut {l : List Nat} {i j : Nat} : cutV (nums l) (some (i : Int)) (some (j : Int)) = nums ((l.drop i).take (j - i)) := by
  unfold cutV nums
  rw [HT.sIx_nat, HT.sIx_nat, List.length_map, ← List.map_drop, ← List.map_take]
  congr 1
  by_cases h : i ≤ l.length
  · rw [Nat.min_eq_left h]
    by_cases h' : j ≤ l.length
    · rw [Nat.min_eq_left h']
    · rw [Nat.min_eq_right (by omega), List.take_of_length_le (by rw [List.length_drop]; omega), List.take_of_length_le (by rw [List.length_drop]; omega)]
  · rw [Nat.min_eq_right (a := i) (by omega), List.drop_eq_nil_of_le (Nat.le_refl _), List.drop_eq_nil_of_le (as := l) (i := i) (by omega), List.take_nil, List.take_nil]
theorem nums_from {l : List Nat} {i : Nat} : cutV (nums l) (some (i : Int)) none = nums (l.drop i) := by
  unfold cutV nums
  rw [HT.sIx_nat, HT.sIx_none, List.length_map, ← List.map_drop, ← List.map_take]
  congr 1
  by_cases h : i ≤ l.length
  · rw [Nat.min_eq_left h, List.take_of_length_le (by rw [List.length_drop]; omega)]
  · rw [Nat.min_eq_right (by omega), List.drop_eq_nil_of_le (Nat.le_refl _), List.drop_eq_nil_of_le (by omega), List.take_nil]
theorem nums_upto {l : List Nat} {j : Nat} : cutV (nums l) none (some (j : Int)) = nums (l.take j) := by
  unfold cutV nums
  rw [HT.sIx_nat, HT.sIx_none, List.length_map, ← List.map_drop, ← List.map_take, List.drop_zero, Nat.sub_zero]
  congr 1
  by_cases h' : j ≤ l.length
  · rw [Nat.min_eq_left h']
  · rw [Nat.min_eq_right (by omega), List.take_of_length_le (Nat.le_refl _), List.take_of_length_le (by omega)]
/-! ### bits of numbers that aren't negative -/
theorem bXor (a b : Nat) : Builtin.bitXor (a : Int) (b : Int) = ((a ^^^ b : Nat) : Int) := Bits.bitXor_pp (Int.natCast_nonneg _) (Int.natCast_nonneg _)
theorem bOr (a b : Nat) : Builtin.bitOr (a : Int) (b : Int) = ((a ||| b : Nat) : Int) := Bits.bitOr_pp (Int.natCast_nonneg _) (Int.natCast_nonneg _)
theorem bAnd (a b : Nat) : Builtin.bitAnd (a : Int) (b : Int) = ((a &&& b : Nat) : Int) := bitAnd_pp (Int.natCast_nonneg _) (Int.natCast_nonneg _)
theorem shl_nat (a n : Nat) : (a : Int) * 2 ^ ((n : Int)).toNat = ((a * 2 ^ n : Nat) : Int) := by
  rw [Int.toNat_natCast, Int.natCast_mul, Int.natCast_pow]
  rfl
theorem shr_nat (a n : Nat) : (a : Int) / 2 ^ ((n : Int)).toNat = ((a / 2 ^ n : Nat) : Int) := by
  rw [Int.toNat_natCast, Int.natCast_ediv, Int.natCast_pow]
  rfl
/-- a constant of the program's top -/
theorem pe_const {X : Cx} {x : Str} {i : Int} {pos : Pos} (h : ∃ t, X.mg x = some (.int i t)) (hg : Gl X x := by rfl) (hd : (x == ("__debug__" : Str)) = false := by decide) : PE X (.Name x pos) (tC (.int i)) := by
  obtain ⟨t, e⟩ := h
  exact pe_glob hg e ⟨_, rfl⟩ hd
/-- a tuple of tuples of whole numbers that the top has laid -/
def TupOf (K : PySem.W.Frag) (a : Addr) (rows : List (List Int)) : Prop := ∃ as : List Addr, as.length = rows.length ∧ (∀ H, SqT K H a (as.map V.ref)) ∧ ∀ (i : Nat) (r : List Int) (p : Addr), rows[i]? = some r → as[i]? = some p → ∀ H, SqT K H p (r.map V.int)
/-- an if whose test is known -/
theorem if_true_of {c : Bool} {A B : Prop} (hc : c = true) (h : A) : if c = true then A else B := by
  rw [if_pos hc]
  exact h
theorem if_false_of {c : Bool} {A B : Prop} (hc : c = false) (h : B) : if c = true then A else B := by
  rw [hc, if_neg Bool.false_ne_true]
  exact h
theorem tupOf_mk {K : PySem.W.Frag} {a : Addr} {od : Option Addr} {its : Array Value} {n : Nat} {sl : Array (Option Value)} {as : List Addr} {rows : List (List Int)} (w : K.lookup a = some ⟨.type "tuple", od, .seq its n, sl⟩)
    (hi : its.toList = as.map Value.ref) (hl : as.length = rows.length) (hs : as.length ≤ sizeLine)
    (hr : ∀ (i : Nat) (r : List Int) (p : Addr), rows[i]? = some r → as[i]? = some p → ∃ (od : Option Addr) (its : Array Value) (n : Nat) (sl : Array (Option Value)), K.lookup p = some ⟨.type "tuple", od, .seq its n, sl⟩ ∧ Vals (r.map V.int) its.toList ∧ its.size ≤ sizeLine) : TupOf K a rows := by
  refine ⟨as, hl, fun H => .inr ⟨_, its, n, w, rfl, rfl, ?_, ?_⟩, fun i r p h1 h2 H => ?_⟩
  · rw [← Array.length_toList, hi, List.length_map]
    exact hs
  · rw [hi]
    clear w hi hl hs hr
    induction as with
    | nil => exact .nil
    | cons x l ih => exact .cons rfl ih
  · obtain ⟨od, its, n, sl, w', v, hz⟩ := hr i r p h1 h2
    exact .inr ⟨_, its, n, w', rfl, rfl, hz, v⟩
end LD

set_option maxRecDepth 100000
set_option maxHeartbeats 4000000
namespace LD
open PySem PySem.Spec PyProof.Rows L2
open PySem.W (Codec)
/-! ### the program's text by places (printed by a script from the linked text) -/
def top (i : Nat) : Stmt := PySem.Challenge.pw_learningdoor_s01_answers.main.body.getD i (.Pass ⟨0, 0, 0, 0⟩)
abbrev s_number_from : Stmt := top 1
abbrev N_number_from : List Str := ["octets", "number", "octet"]
abbrev P_number_from : List Str := ["octets"]
theorem sc_number_from : FnScope N_number_from P_number_from (defScope s_number_from) := ⟨rfl, rfl, rfl, by decide +kernel, rfl, by decide +kernel, by decide +kernel⟩
abbrev s_octets_from : Stmt := top 2
abbrev N_octets_from : List Str := ["number", "length", "octets", "at"]
abbrev P_octets_from : List Str := ["number", "length"]
theorem sc_octets_from : FnScope N_octets_from P_octets_from (defScope s_octets_from) := ⟨rfl, rfl, rfl, by decide +kernel, rfl, by decide +kernel, by decide +kernel⟩
abbrev s_turned : Stmt := top 5
abbrev N_turned : List Str := ["number", "bits"]
abbrev P_turned : List Str := ["number", "bits"]
theorem sc_turned : FnScope N_turned P_turned (defScope s_turned) := ⟨rfl, rfl, rfl, by decide +kernel, rfl, by decide +kernel, by decide +kernel⟩
abbrev s_Mixer_init : Stmt := inClass (top 6) 0
abbrev N_Mixer_init : List Str := ["self", "key", "first", "other"]
abbrev P_Mixer_init : List Str := ["self", "key"]
theorem sc_Mixer_init : FnScope N_Mixer_init P_Mixer_init (defScope s_Mixer_init) := ⟨rfl, rfl, rfl, by decide +kernel, rfl, by decide +kernel, by decide +kernel⟩
abbrev s_Mixer_mix_once : Stmt := inClass (top 6) 1
abbrev N_Mixer_mix_once : List Str := ["self"]
abbrev P_Mixer_mix_once : List Str := ["self"]
theorem sc_Mixer_mix_once : FnScope N_Mixer_mix_once P_Mixer_mix_once (defScope s_Mixer_mix_once) := ⟨rfl, rfl, rfl, by decide +kernel, rfl, by decide +kernel, by decide +kernel⟩
abbrev s_Mixer_mix : Stmt := inClass (top 6) 2
abbrev N_Mixer_mix : List Str := ["self", "times", "turn"]
abbrev P_Mixer_mix : List Str := ["self", "times"]
theorem sc_Mixer_mix : FnScope N_Mixer_mix P_Mixer_mix (defScope s_Mixer_mix) := ⟨rfl, rfl, rfl, by decide +kernel, rfl, by decide +kernel, by decide +kernel⟩
abbrev s_Mixer_take_in : Stmt := inClass (top 6) 3
abbrev N_Mixer_take_in : List Str := ["self", "word"]
abbrev P_Mixer_take_in : List Str := ["self", "word"]
theorem sc_Mixer_take_in : FnScope N_Mixer_take_in P_Mixer_take_in (defScope s_Mixer_take_in) := ⟨rfl, rfl, rfl, by decide +kernel, rfl, by decide +kernel, by decide +kernel⟩
abbrev s_Mixer_finish : Stmt := inClass (top 6) 4
abbrev N_Mixer_finish : List Str := ["self"]
abbrev P_Mixer_finish : List Str := ["self"]
theorem sc_Mixer_finish : FnScope N_Mixer_finish P_Mixer_finish (defScope s_Mixer_finish) := ⟨rfl, rfl, rfl, by decide +kernel, rfl, by decide +kernel, by decide +kernel⟩
abbrev s_words_of : Stmt := top 7
abbrev N_words_of : List Str := ["message", "words", "at", "length"]
abbrev P_words_of : List Str := ["message"]
theorem sc_words_of : FnScope N_words_of P_words_of (defScope s_words_of) := ⟨rfl, rfl, rfl, by decide +kernel, rfl, by decide +kernel, by decide +kernel⟩
abbrev s_tag_of : Stmt := top 8
abbrev N_tag_of : List Str := ["message", "key", "mixer", "word"]
abbrev P_tag_of : List Str := ["message", "key"]
theorem sc_tag_of : FnScope N_tag_of P_tag_of (defScope s_tag_of) := ⟨rfl, rfl, rfl, by decide +kernel, rfl, by decide +kernel, by decide +kernel⟩
abbrev s_Card_init : Stmt := inClass (top 17) 0
abbrev N_Card_init : List Str := ["self", "content"]
abbrev P_Card_init : List Str := ["self", "content"]
theorem sc_Card_init : FnScope N_Card_init P_Card_init (defScope s_Card_init) := ⟨rfl, rfl, rfl, by decide +kernel, rfl, by decide +kernel, by decide +kernel⟩
abbrev s_is_for_room : Stmt := top 18
abbrev N_is_for_room : List Str := ["kind"]
abbrev P_is_for_room : List Str := ["kind"]
theorem sc_is_for_room : FnScope N_is_for_room P_is_for_room (defScope s_is_for_room) := ⟨rfl, rfl, rfl, by decide +kernel, rfl, by decide +kernel, by decide +kernel⟩
abbrev s_has_place : Stmt := top 19
abbrev N_has_place : List Str := ["kind", "place"]
abbrev P_has_place : List Str := ["kind", "place"]
theorem sc_has_place : FnScope N_has_place P_has_place (defScope s_has_place) := ⟨rfl, rfl, rfl, by decide +kernel, rfl, by decide +kernel, by decide +kernel⟩
abbrev s_is_card : Stmt := top 20
abbrev N_is_card : List Str := ["content", "key"]
abbrev P_is_card : List Str := ["content", "key"]
theorem sc_is_card : FnScope N_is_card P_is_card (defScope s_is_card) := ⟨rfl, rfl, rfl, by decide +kernel, rfl, by decide +kernel, by decide +kernel⟩
abbrev s_may_begin : Stmt := top 34
abbrev N_may_begin : List Str := ["room", "zone", "key"]
abbrev P_may_begin : List Str := ["room", "zone", "key"]
theorem sc_may_begin : FnScope N_may_begin P_may_begin (defScope s_may_begin) := ⟨rfl, rfl, rfl, by decide +kernel, rfl, by decide +kernel, by decide +kernel⟩
abbrev s_Door_init : Stmt := inClass (top 35) 0
abbrev N_Door_init : List Str := ["self", "room", "zone", "key"]
abbrev P_Door_init : List Str := ["self", "room", "zone", "key"]
theorem sc_Door_init : FnScope N_Door_init P_Door_init (defScope s_Door_init) := ⟨rfl, rfl, rfl, by decide +kernel, rfl, by decide +kernel, by decide +kernel⟩
abbrev s_Door_move_day : Stmt := inClass (top 35) 1
abbrev N_Door_move_day : List Str := ["self", "day"]
abbrev P_Door_move_day : List Str := ["self", "day"]
theorem sc_Door_move_day : FnScope N_Door_move_day P_Door_move_day (defScope s_Door_move_day) := ⟨rfl, rfl, rfl, by decide +kernel, rfl, by decide +kernel, by decide +kernel⟩
abbrev s_Door_set_bolt : Stmt := inClass (top 35) 2
abbrev N_Door_set_bolt : List Str := ["self", "on"]
abbrev P_Door_set_bolt : List Str := ["self", "on"]
theorem sc_Door_set_bolt : FnScope N_Door_set_bolt P_Door_set_bolt (defScope s_Door_set_bolt) := ⟨rfl, rfl, rfl, by decide +kernel, rfl, by decide +kernel, by decide +kernel⟩
abbrev s_Door_would_answer : Stmt := inClass (top 35) 3
abbrev N_Door_would_answer : List Str := ["self", "content"]
abbrev P_Door_would_answer : List Str := ["self", "content"]
theorem sc_Door_would_answer : FnScope N_Door_would_answer P_Door_would_answer (defScope s_Door_would_answer) := ⟨rfl, rfl, rfl, by decide +kernel, rfl, by decide +kernel, by decide +kernel⟩
abbrev s_Door_show : Stmt := inClass (top 35) 4
abbrev N_Door_show : List Str := ["self", "content", "answer"]
abbrev P_Door_show : List Str := ["self", "content"]
theorem sc_Door_show : FnScope N_Door_show P_Door_show (defScope s_Door_show) := ⟨rfl, rfl, rfl, by decide +kernel, rfl, by decide +kernel, by decide +kernel⟩
abbrev s_Door_judge : Stmt := inClass (top 35) 5
abbrev N_Door_judge : List Str := ["self", "card"]
abbrev P_Door_judge : List Str := ["self", "card"]
theorem sc_Door_judge : FnScope N_Door_judge P_Door_judge (defScope s_Door_judge) := ⟨rfl, rfl, rfl, by decide +kernel, rfl, by decide +kernel, by decide +kernel⟩
abbrev s_Door_is_meant : Stmt := inClass (top 35) 6
abbrev N_Door_is_meant : List Str := ["self", "card"]
abbrev P_Door_is_meant : List Str := ["self", "card"]
theorem sc_Door_is_meant : FnScope N_Door_is_meant P_Door_is_meant (defScope s_Door_is_meant) := ⟨rfl, rfl, rfl, by decide +kernel, rfl, by decide +kernel, by decide +kernel⟩
abbrev s_Door_newest : Stmt := inClass (top 35) 7
abbrev N_Door_newest : List Str := ["self", "card"]
abbrev P_Door_newest : List Str := ["self", "card"]
theorem sc_Door_newest : FnScope N_Door_newest P_Door_newest (defScope s_Door_newest) := ⟨rfl, rfl, rfl, by decide +kernel, rfl, by decide +kernel, by decide +kernel⟩
abbrev s_Door_learn : Stmt := inClass (top 35) 8
abbrev N_Door_learn : List Str := ["self", "card"]
abbrev P_Door_learn : List Str := ["self", "card"]
theorem sc_Door_learn : FnScope N_Door_learn P_Door_learn (defScope s_Door_learn) := ⟨rfl, rfl, rfl, by decide +kernel, rfl, by decide +kernel, by decide +kernel⟩
abbrev s_Door_write_down : Stmt := inClass (top 35) 9
abbrev N_Door_write_down : List Str := ["self", "card"]
abbrev P_Door_write_down : List Str := ["self", "card"]
theorem sc_Door_write_down : FnScope N_Door_write_down P_Door_write_down (defScope s_Door_write_down) := ⟨rfl, rfl, rfl, by decide +kernel, rfl, by decide +kernel, by decide +kernel⟩
abbrev s_Door_entry : Stmt := inClass (top 35) 10
abbrev N_Door_entry : List Str := ["self", "k"]
abbrev P_Door_entry : List Str := ["self", "k"]
theorem sc_Door_entry : FnScope N_Door_entry P_Door_entry (defScope s_Door_entry) := ⟨rfl, rfl, rfl, by decide +kernel, rfl, by decide +kernel, by decide +kernel⟩
abbrev s_Door_state : Stmt := inClass (top 35) 11
abbrev N_Door_state : List Str := ["self", "bolted"]
abbrev P_Door_state : List Str := ["self"]
theorem sc_Door_state : FnScope N_Door_state P_Door_state (defScope s_Door_state) := ⟨rfl, rfl, rfl, by decide +kernel, rfl, by decide +kernel, by decide +kernel⟩
abbrev s_Reader_init : Stmt := inClass (top 45) 0
abbrev N_Reader_init : List Str := ["self", "calls"]
abbrev P_Reader_init : List Str := ["self", "calls"]
theorem sc_Reader_init : FnScope N_Reader_init P_Reader_init (defScope s_Reader_init) := ⟨rfl, rfl, rfl, by decide +kernel, rfl, by decide +kernel, by decide +kernel⟩
abbrev s_Reader_is_done : Stmt := inClass (top 45) 1
abbrev N_Reader_is_done : List Str := ["self"]
abbrev P_Reader_is_done : List Str := ["self"]
theorem sc_Reader_is_done : FnScope N_Reader_is_done P_Reader_is_done (defScope s_Reader_is_done) := ⟨rfl, rfl, rfl, by decide +kernel, rfl, by decide +kernel, by decide +kernel⟩
abbrev s_Reader_take_number : Stmt := inClass (top 45) 2
abbrev N_Reader_take_number : List Str := ["self", "number"]
abbrev P_Reader_take_number : List Str := ["self"]
theorem sc_Reader_take_number : FnScope N_Reader_take_number P_Reader_take_number (defScope s_Reader_take_number) := ⟨rfl, rfl, rfl, by decide +kernel, rfl, by decide +kernel, by decide +kernel⟩
abbrev s_Reader_take_row : Stmt := inClass (top 45) 3
abbrev N_Reader_take_row : List Str := ["self", "length", "row"]
abbrev P_Reader_take_row : List Str := ["self"]
theorem sc_Reader_take_row : FnScope N_Reader_take_row P_Reader_take_row (defScope s_Reader_take_row) := ⟨rfl, rfl, rfl, by decide +kernel, rfl, by decide +kernel, by decide +kernel⟩
abbrev s_Reader_take_arguments : Stmt := inClass (top 45) 4
abbrev N_Reader_take_arguments : List Str := ["self", "call", "shape", "arguments", "turn"]
abbrev P_Reader_take_arguments : List Str := ["self", "call"]
theorem sc_Reader_take_arguments : FnScope N_Reader_take_arguments P_Reader_take_arguments (defScope s_Reader_take_arguments) := ⟨rfl, rfl, rfl, by decide +kernel, rfl, by decide +kernel, by decide +kernel⟩
abbrev s_Desk_init : Stmt := inClass (top 46) 0
abbrev N_Desk_init : List Str := ["self"]
abbrev P_Desk_init : List Str := ["self"]
theorem sc_Desk_init : FnScope N_Desk_init P_Desk_init (defScope s_Desk_init) := ⟨rfl, rfl, rfl, by decide +kernel, rfl, by decide +kernel, by decide +kernel⟩
abbrev s_Desk_answer : Stmt := inClass (top 46) 1
abbrev N_Desk_answer : List Str := ["self", "call", "arguments"]
abbrev P_Desk_answer : List Str := ["self", "call", "arguments"]
theorem sc_Desk_answer : FnScope N_Desk_answer P_Desk_answer (defScope s_Desk_answer) := ⟨rfl, rfl, rfl, by decide +kernel, rfl, by decide +kernel, by decide +kernel⟩
abbrev s_Desk_begin : Stmt := inClass (top 46) 2
abbrev N_Desk_begin : List Str := ["self", "room", "zone", "key"]
abbrev P_Desk_begin : List Str := ["self", "room", "zone", "key"]
theorem sc_Desk_begin : FnScope N_Desk_begin P_Desk_begin (defScope s_Desk_begin) := ⟨rfl, rfl, rfl, by decide +kernel, rfl, by decide +kernel, by decide +kernel⟩
abbrev s_answers : Stmt := top 47
abbrev N_answers : List Str := ["calls", "reader", "desk", "given", "call", "answer"]
abbrev P_answers : List Str := ["calls"]
theorem sc_answers : FnScope N_answers P_answers (defScope s_answers) := ⟨rfl, rfl, rfl, by decide +kernel, rfl, by decide +kernel, by decide +kernel⟩
/-- where the top has laid what -/
structure Ad where
  f_number_from : Addr
  d_number_from : FuncData
  f_octets_from : Addr
  d_octets_from : FuncData
  f_turned : Addr
  d_turned : FuncData
  f_Mixer_init : Addr
  d_Mixer_init : FuncData
  f_Mixer_mix_once : Addr
  d_Mixer_mix_once : FuncData
  f_Mixer_mix : Addr
  d_Mixer_mix : FuncData
  f_Mixer_take_in : Addr
  d_Mixer_take_in : FuncData
  f_Mixer_finish : Addr
  d_Mixer_finish : FuncData
  f_words_of : Addr
  d_words_of : FuncData
  f_tag_of : Addr
  d_tag_of : FuncData
  f_Card_init : Addr
  d_Card_init : FuncData
  f_is_for_room : Addr
  d_is_for_room : FuncData
  f_has_place : Addr
  d_has_place : FuncData
  f_is_card : Addr
  d_is_card : FuncData
  f_may_begin : Addr
  d_may_begin : FuncData
  f_Door_init : Addr
  d_Door_init : FuncData
  f_Door_move_day : Addr
  d_Door_move_day : FuncData
  f_Door_set_bolt : Addr
  d_Door_set_bolt : FuncData
  f_Door_would_answer : Addr
  d_Door_would_answer : FuncData
  f_Door_show : Addr
  d_Door_show : FuncData
  f_Door_judge : Addr
  d_Door_judge : FuncData
  f_Door_is_meant : Addr
  d_Door_is_meant : FuncData
  f_Door_newest : Addr
  d_Door_newest : FuncData
  f_Door_learn : Addr
  d_Door_learn : FuncData
  f_Door_write_down : Addr
  d_Door_write_down : FuncData
  f_Door_entry : Addr
  d_Door_entry : FuncData
  f_Door_state : Addr
  d_Door_state : FuncData
  f_Reader_init : Addr
  d_Reader_init : FuncData
  f_Reader_is_done : Addr
  d_Reader_is_done : FuncData
  f_Reader_take_number : Addr
  d_Reader_take_number : FuncData
  f_Reader_take_row : Addr
  d_Reader_take_row : FuncData
  f_Reader_take_arguments : Addr
  d_Reader_take_arguments : FuncData
  f_Desk_init : Addr
  d_Desk_init : FuncData
  f_Desk_answer : Addr
  d_Desk_answer : FuncData
  f_Desk_begin : Addr
  d_Desk_begin : FuncData
  f_answers : Addr
  d_answers : FuncData
  C_Mixer : Addr
  C_Card : Addr
  C_Door : Addr
  C_Reader : Addr
  C_Desk : Addr
/-- what is known behind the top -/
structure Txt (K : PySem.W.Frag) (mg : Str → Option Value) (A : Ad) : Prop where
  F_number_from : Fun K "number_from" "number_from" s_number_from A.f_number_from A.d_number_from
  B_number_from : Binds K A.d_number_from P_number_from []
  g_number_from : mg "number_from" = some (.ref A.f_number_from)
  F_octets_from : Fun K "octets_from" "octets_from" s_octets_from A.f_octets_from A.d_octets_from
  B_octets_from : Binds K A.d_octets_from P_octets_from []
  g_octets_from : mg "octets_from" = some (.ref A.f_octets_from)
  F_turned : Fun K "turned" "turned" s_turned A.f_turned A.d_turned
  B_turned : Binds K A.d_turned P_turned []
  g_turned : mg "turned" = some (.ref A.f_turned)
  F_Mixer_init : Fun K "__init__" "Mixer.__init__" s_Mixer_init A.f_Mixer_init A.d_Mixer_init
  B_Mixer_init : Binds K A.d_Mixer_init P_Mixer_init []
  F_Mixer_mix_once : Fun K "mix_once" "Mixer.mix_once" s_Mixer_mix_once A.f_Mixer_mix_once A.d_Mixer_mix_once
  B_Mixer_mix_once : Binds K A.d_Mixer_mix_once P_Mixer_mix_once []
  M_Mixer_mix_once : Meth K A.C_Mixer "mix_once" A.f_Mixer_mix_once
  F_Mixer_mix : Fun K "mix" "Mixer.mix" s_Mixer_mix A.f_Mixer_mix A.d_Mixer_mix
  B_Mixer_mix : Binds K A.d_Mixer_mix P_Mixer_mix []
  M_Mixer_mix : Meth K A.C_Mixer "mix" A.f_Mixer_mix
  F_Mixer_take_in : Fun K "take_in" "Mixer.take_in" s_Mixer_take_in A.f_Mixer_take_in A.d_Mixer_take_in
  B_Mixer_take_in : Binds K A.d_Mixer_take_in P_Mixer_take_in []
  M_Mixer_take_in : Meth K A.C_Mixer "take_in" A.f_Mixer_take_in
  F_Mixer_finish : Fun K "finish" "Mixer.finish" s_Mixer_finish A.f_Mixer_finish A.d_Mixer_finish
  B_Mixer_finish : Binds K A.d_Mixer_finish P_Mixer_finish []
  M_Mixer_finish : Meth K A.C_Mixer "finish" A.f_Mixer_finish
  F_words_of : Fun K "words_of" "words_of" s_words_of A.f_words_of A.d_words_of
  B_words_of : Binds K A.d_words_of P_words_of []
  g_words_of : mg "words_of" = some (.ref A.f_words_of)
  F_tag_of : Fun K "tag_of" "tag_of" s_tag_of A.f_tag_of A.d_tag_of
  B_tag_of : Binds K A.d_tag_of P_tag_of []
  g_tag_of : mg "tag_of" = some (.ref A.f_tag_of)
  F_Card_init : Fun K "__init__" "Card.__init__" s_Card_init A.f_Card_init A.d_Card_init
  B_Card_init : Binds K A.d_Card_init P_Card_init []
  F_is_for_room : Fun K "is_for_room" "is_for_room" s_is_for_room A.f_is_for_room A.d_is_for_room
  B_is_for_room : Binds K A.d_is_for_room P_is_for_room []
  g_is_for_room : mg "is_for_room" = some (.ref A.f_is_for_room)
  F_has_place : Fun K "has_place" "has_place" s_has_place A.f_has_place A.d_has_place
  B_has_place : Binds K A.d_has_place P_has_place []
  g_has_place : mg "has_place" = some (.ref A.f_has_place)
  F_is_card : Fun K "is_card" "is_card" s_is_card A.f_is_card A.d_is_card
  B_is_card : Binds K A.d_is_card P_is_card []
  g_is_card : mg "is_card" = some (.ref A.f_is_card)
  F_may_begin : Fun K "may_begin" "may_begin" s_may_begin A.f_may_begin A.d_may_begin
  B_may_begin : Binds K A.d_may_begin P_may_begin []
  g_may_begin : mg "may_begin" = some (.ref A.f_may_begin)
  F_Door_init : Fun K "__init__" "Door.__init__" s_Door_init A.f_Door_init A.d_Door_init
  B_Door_init : Binds K A.d_Door_init P_Door_init []
  F_Door_move_day : Fun K "move_day" "Door.move_day" s_Door_move_day A.f_Door_move_day A.d_Door_move_day
  B_Door_move_day : Binds K A.d_Door_move_day P_Door_move_day []
  M_Door_move_day : Meth K A.C_Door "move_day" A.f_Door_move_day
  F_Door_set_bolt : Fun K "set_bolt" "Door.set_bolt" s_Door_set_bolt A.f_Door_set_bolt A.d_Door_set_bolt
  B_Door_set_bolt : Binds K A.d_Door_set_bolt P_Door_set_bolt []
  M_Door_set_bolt : Meth K A.C_Door "set_bolt" A.f_Door_set_bolt
  F_Door_would_answer : Fun K "would_answer" "Door.would_answer" s_Door_would_answer A.f_Door_would_answer A.d_Door_would_answer
  B_Door_would_answer : Binds K A.d_Door_would_answer P_Door_would_answer []
  M_Door_would_answer : Meth K A.C_Door "would_answer" A.f_Door_would_answer
  F_Door_show : Fun K "show" "Door.show" s_Door_show A.f_Door_show A.d_Door_show
  B_Door_show : Binds K A.d_Door_show P_Door_show []
  M_Door_show : Meth K A.C_Door "show" A.f_Door_show
  F_Door_judge : Fun K "judge" "Door.judge" s_Door_judge A.f_Door_judge A.d_Door_judge
  B_Door_judge : Binds K A.d_Door_judge P_Door_judge []
  M_Door_judge : Meth K A.C_Door "judge" A.f_Door_judge
  F_Door_is_meant : Fun K "is_meant" "Door.is_meant" s_Door_is_meant A.f_Door_is_meant A.d_Door_is_meant
  B_Door_is_meant : Binds K A.d_Door_is_meant P_Door_is_meant []
  M_Door_is_meant : Meth K A.C_Door "is_meant" A.f_Door_is_meant
  F_Door_newest : Fun K "newest" "Door.newest" s_Door_newest A.f_Door_newest A.d_Door_newest
  B_Door_newest : Binds K A.d_Door_newest P_Door_newest []
  M_Door_newest : Meth K A.C_Door "newest" A.f_Door_newest
  F_Door_learn : Fun K "learn" "Door.learn" s_Door_learn A.f_Door_learn A.d_Door_learn
  B_Door_learn : Binds K A.d_Door_learn P_Door_learn []
  M_Door_learn : Meth K A.C_Door "learn" A.f_Door_learn
  F_Door_write_down : Fun K "write_down" "Door.write_down" s_Door_write_down A.f_Door_write_down A.d_Door_write_down
  B_Door_write_down : Binds K A.d_Door_write_down P_Door_write_down []
  M_Door_write_down : Meth K A.C_Door "write_down" A.f_Door_write_down
  F_Door_entry : Fun K "entry" "Door.entry" s_Door_entry A.f_Door_entry A.d_Door_entry
  B_Door_entry : Binds K A.d_Door_entry P_Door_entry []
  M_Door_entry : Meth K A.C_Door "entry" A.f_Door_entry
  F_Door_state : Fun K "state" "Door.state" s_Door_state A.f_Door_state A.d_Door_state
  B_Door_state : Binds K A.d_Door_state P_Door_state []
  M_Door_state : Meth K A.C_Door "state" A.f_Door_state
  F_Reader_init : Fun K "__init__" "Reader.__init__" s_Reader_init A.f_Reader_init A.d_Reader_init
  B_Reader_init : Binds K A.d_Reader_init P_Reader_init []
  F_Reader_is_done : Fun K "is_done" "Reader.is_done" s_Reader_is_done A.f_Reader_is_done A.d_Reader_is_done
  B_Reader_is_done : Binds K A.d_Reader_is_done P_Reader_is_done []
  M_Reader_is_done : Meth K A.C_Reader "is_done" A.f_Reader_is_done
  F_Reader_take_number : Fun K "take_number" "Reader.take_number" s_Reader_take_number A.f_Reader_take_number A.d_Reader_take_number
  B_Reader_take_number : Binds K A.d_Reader_take_number P_Reader_take_number []
  M_Reader_take_number : Meth K A.C_Reader "take_number" A.f_Reader_take_number
  F_Reader_take_row : Fun K "take_row" "Reader.take_row" s_Reader_take_row A.f_Reader_take_row A.d_Reader_take_row
  B_Reader_take_row : Binds K A.d_Reader_take_row P_Reader_take_row []
  M_Reader_take_row : Meth K A.C_Reader "take_row" A.f_Reader_take_row
  F_Reader_take_arguments : Fun K "take_arguments" "Reader.take_arguments" s_Reader_take_arguments A.f_Reader_take_arguments A.d_Reader_take_arguments
  B_Reader_take_arguments : Binds K A.d_Reader_take_arguments P_Reader_take_arguments []
  M_Reader_take_arguments : Meth K A.C_Reader "take_arguments" A.f_Reader_take_arguments
  F_Desk_init : Fun K "__init__" "Desk.__init__" s_Desk_init A.f_Desk_init A.d_Desk_init
  B_Desk_init : Binds K A.d_Desk_init P_Desk_init []
  F_Desk_answer : Fun K "answer" "Desk.answer" s_Desk_answer A.f_Desk_answer A.d_Desk_answer
  B_Desk_answer : Binds K A.d_Desk_answer P_Desk_answer []
  M_Desk_answer : Meth K A.C_Desk "answer" A.f_Desk_answer
  F_Desk_begin : Fun K "begin" "Desk.begin" s_Desk_begin A.f_Desk_begin A.d_Desk_begin
  B_Desk_begin : Binds K A.d_Desk_begin P_Desk_begin []
  M_Desk_begin : Meth K A.C_Desk "begin" A.f_Desk_begin
  F_answers : Fun K "answers" "answers" s_answers A.f_answers A.d_answers
  B_answers : Binds K A.d_answers P_answers []
  g_answers : mg "answers" = some (.ref A.f_answers)
  cl_Mixer : Cls K A.C_Mixer
  mk_Mixer : Mk K A.C_Mixer A.f_Mixer_init
  gc_Mixer : mg "Mixer" = some (.ref A.C_Mixer)
  no_Mixer_a : NoAttr K A.C_Mixer "a"
  no_Mixer_b : NoAttr K A.C_Mixer "b"
  no_Mixer_c : NoAttr K A.C_Mixer "c"
  no_Mixer_d : NoAttr K A.C_Mixer "d"
  cl_Card : Cls K A.C_Card
  mk_Card : Mk K A.C_Card A.f_Card_init
  gc_Card : mg "Card" = some (.ref A.C_Card)
  no_Card_kind : NoAttr K A.C_Card "kind"
  no_Card_place : NoAttr K A.C_Card "place"
  no_Card_number : NoAttr K A.C_Card "number"
  no_Card_last : NoAttr K A.C_Card "last"
  no_Card_serial : NoAttr K A.C_Card "serial"
  cl_Door : Cls K A.C_Door
  mk_Door : Mk K A.C_Door A.f_Door_init
  gc_Door : mg "Door" = some (.ref A.C_Door)
  no_Door_room : NoAttr K A.C_Door "room"
  no_Door_zone : NoAttr K A.C_Door "zone"
  no_Door_key : NoAttr K A.C_Door "key"
  no_Door_day : NoAttr K A.C_Door "day"
  no_Door_learned_number : NoAttr K A.C_Door "learned_number"
  no_Door_learned_round : NoAttr K A.C_Door "learned_round"
  no_Door_bolted : NoAttr K A.C_Door "bolted"
  no_Door_book : NoAttr K A.C_Door "book"
  cl_Reader : Cls K A.C_Reader
  mk_Reader : Mk K A.C_Reader A.f_Reader_init
  gc_Reader : mg "Reader" = some (.ref A.C_Reader)
  no_Reader_calls : NoAttr K A.C_Reader "calls"
  no_Reader_at : NoAttr K A.C_Reader "at"
  cl_Desk : Cls K A.C_Desk
  mk_Desk : Mk K A.C_Desk A.f_Desk_init
  gc_Desk : mg "Desk" = some (.ref A.C_Desk)
  no_Desk_door : NoAttr K A.C_Desk "door"
  k_MASK : ∃ t, mg "MASK" = some (.int (18446744073709551615) t)
  k_GUEST : ∃ t, mg "GUEST" = some (.int (1) t)
  k_STAFF : ∃ t, mg "STAFF" = some (.int (2) t)
  k_SHUTTING : ∃ t, mg "SHUTTING" = some (.int (3) t)
  k_EMERGENCY : ∃ t, mg "EMERGENCY" = some (.int (4) t)
  k_CARD_LENGTH : ∃ t, mg "CARD_LENGTH" = some (.int (16) t)
  k_LAST_ROOM : ∃ t, mg "LAST_ROOM" = some (.int (63) t)
  k_EVERY_ZONE : ∃ t, mg "EVERY_ZONE" = some (.int (255) t)
  k_KEY_LENGTH : ∃ t, mg "KEY_LENGTH" = some (.int (16) t)
  k_LAST_ZONE : ∃ t, mg "LAST_ZONE" = some (.int (7) t)
  k_LAST_DAY : ∃ t, mg "LAST_DAY" = some (.int (65535) t)
  k_BOOK_LENGTH : ∃ t, mg "BOOK_LENGTH" = some (.int (16) t)
  k_DONE : ∃ t, mg "DONE" = some (.int (0) t)
  k_NO_ENTRY : ∃ t, mg "NO_ENTRY" = some (.int (-2) t)
  k_ELSEWHERE : ∃ t, mg "ELSEWHERE" = some (.int (-13) t)
  k_BOLTED : ∃ t, mg "BOLTED" = some (.int (-15) t)
  k_OLDER : ∃ t, mg "OLDER" = some (.int (-17) t)
  k_WRONG_VALUE : ∃ t, mg "WRONG_VALUE" = some (.int (-22) t)
  k_OVER : ∃ t, mg "OVER" = some (.int (-34) t)
  k_NOT_A_CARD : ∃ t, mg "NOT_A_CARD" = some (.int (-71) t)
  k_BEGIN : ∃ t, mg "BEGIN" = some (.int (0) t)
  k_DAY : ∃ t, mg "DAY" = some (.int (1) t)
  k_OPEN : ∃ t, mg "OPEN" = some (.int (2) t)
  k_WOULD : ∃ t, mg "WOULD" = some (.int (3) t)
  k_BOLT : ∃ t, mg "BOLT" = some (.int (4) t)
  k_BOOK : ∃ t, mg "BOOK" = some (.int (5) t)
  k_SHAPES : ∃ a, mg "SHAPES" = some (.ref a) ∧ TupOf K a [[2, 1], [1, 0], [0, 1], [0, 1], [1, 0], [1, 0], [0, 0]]
  k_NO_DOOR : ∃ t, mg "NO_DOOR" = some (.int (-61) t)
  b_reversed : mg "reversed" = none
  b_range : mg "range" = none
  b_len : mg "len" = none
  b_list : mg "list" = none
end LD

set_option maxRecDepth 100000
set_option maxHeartbeats 4000000
namespace LD
open PySem PySem.Spec PyProof.Rows L2
open PySem.W (Codec)
/-! ### numbers and bytes -/
section
variable {P : Program} {w : World} {K : PySem.W.Frag} {mg : Str → Option Value} {base : Heap} {A : Ad}
def spNum (K : PySem.W.Frag) : Sp := fun vs H Q _ => ∃ (a : Addr) (ns : List Nat), vs = [.ref a] ∧ SqL K H a (nums ns) ∧ Q (nI (Ks345.number ns)) H
theorem ok_number_from (T : Txt K mg A) : FnOk P w K mg base CX0 1 A.f_number_from A.d_number_from P_number_from (spNum K) := by
  refine T.F_number_from.ok sc_number_from (fun vs H Q E h => ?_) (fun cdv Ar outer s H vs Q E hr h => ⟨_, pss_cons (ps_set (i := 1) sc_number_from.nd rfl (Or.inl rfl) pe_int)
    (pss_cons (ps_for PassesOwn.never rfl (pi_reversed rfl T.b_reversed (pa_cons (pv 0) pa_nil)) (pg_name (i := 2) sc_number_from.nd rfl (Or.inl rfl))
      (pss_one (ps_set (i := 1) sc_number_from.nd rfl (Or.inl rfl) (pe_op op_add (pe_op op_mul (pv 1) pe_int) (pv 2)))))
    (pss_one (ps_ret (pv 1)))), ?_⟩)
  · obtain ⟨a, ns, rfl, _⟩ := h
    rfl
  · obtain ⟨a, ns, rfl, hl, q⟩ := h
    refine ⟨_, rfl, a, nums ns, rfl, hl, ?_⟩
    refine RT.for_Itv (K := K) (a := a) (xs := nums ns) (fun i σ H' => H' = H ∧ ∃ v, σ = [some (.ref a), some (nI (Ks345.number (ns.drop (ns.length - i)))), v]) ?_ ?_ ?_ ?_
    · refine ⟨rfl, none, ?_⟩
      rw [Nat.sub_zero, List.drop_length]
      rfl
    · rintro i σ H' ⟨rfl, _⟩
      exact hl
    · rintro i x σ H' hi hx ⟨rfl, v, rfl⟩
      obtain ⟨n, hn, rfl⟩ := nums_get hx
      rw [nums_len] at hi hn
      refine ⟨_, rfl, _, _, rfl, rfl, .inr ⟨by decide, by decide⟩, _, rfl, _, _, rfl, rfl, rfl, some (nI n), ?_⟩
      rw [number_back hi hn]
      show [_, some (V.int ((Ks345.number _ : Int) * 256 + (n : Int))), _] = [_, some (V.int _), _]
      rw [Int.natCast_add, Int.natCast_mul]
      rfl
    · rintro σ H' ⟨rfl, v, rfl⟩
      refine ⟨_, rfl, ?_⟩
      rw [nums_len, Nat.sub_self, List.drop_zero]
      exact q
/-- the bytes of a number, a new list -/
def spOct (K : PySem.W.Frag) : Sp := fun vs H Q _ => ∃ (n k : Nat), vs = [nI n, nI k] ∧ k ≤ 1000 ∧ ∀ H' p, Kept [] H H' → H p = none → H' p = some (.lst (nums (Ks345.bytes k n))) → Q (.ref p) H'
theorem ok_octets_from (T : Txt K mg A) : FnOk P w K mg base CX0 1 A.f_octets_from A.d_octets_from P_octets_from (spOct K) := by
  refine T.F_octets_from.ok sc_octets_from (fun vs H Q E h => ?_) (fun cdv Ar outer s H vs Q E hr h => ⟨_, pss_cons (ps_set (i := 2) sc_octets_from.nd rfl (Or.inl rfl) (pe_lst pa_nil))
    (pss_cons (ps_for PassesOwn.never rfl (pi_range1 rfl T.b_range (pa_cons (pv 1) pa_nil)) (pg_name (i := 3) sc_octets_from.nd rfl (Or.inl rfl))
      (pss_one (ps_expr (pe_bm PySem.F.plainAttrs_list PySem.F.slot_list_append PySem.F.type_list_append mt_append (pv 2)
        (pa_cons (pe_op op_and (pe_op op_shr (pv 0) (pe_op op_mul pe_int (pv 3))) pe_int) pa_nil)))))
    (pss_one (ps_ret (pv 2)))), ?_⟩)
  · obtain ⟨n, k, rfl, _⟩ := h
    rfl
  · obtain ⟨n, k, rfl, hk, q⟩ := h
    refine ⟨(by show 0 ≤ sizeLine; decide), fun p hp => ?_⟩
    refine ⟨_, rfl, (k : Int), rfl, by omega, by omega, ?_⟩
    refine for_range (lo := 0) (n := (k : Int).toNat) (fun i σ H' => (∃ v, σ = [some (nI n), some (nI k), some (.ref p), v]) ∧ H' = upd H p (.lst (nums (Ks345.bytes i n)))) ?_ ?_ ?_
    · exact ⟨⟨none, rfl⟩, rfl⟩
    · rintro i σ H' hi ⟨⟨v, rfl⟩, rfl⟩
      rw [Int.toNat_natCast] at hi
      have e : (0 : Int) + (i : Int) = ((i : Nat) : Int) := Int.zero_add _
      rw [e]
      refine ⟨_, rfl, .inl ⟨rfl, _, SqL.of upd_same⟩, _, rfl, _, rfl, _, _, rfl, rfl, .inl ⟨by decide, by decide⟩, _, _, rfl, rfl, (by show (0 : Int) ≤ 8 * (i : Int); omega), _, _, rfl, rfl, p, _, _, rfl, rfl, upd_same, ?_, ?_⟩
      · rw [nums_len, bytes_len]
        exact small1000 (by omega)
      · refine ⟨⟨some (nI i), rfl⟩, ?_⟩
        rw [upd_upd, bytes_snoc]
        congr 2
        unfold nums
        rw [List.map_append]
        congr 2
        show V.int (Builtin.bitAnd ((n : Int) / 2 ^ ((8 : Int) * (i : Int)).toNat) 255) = V.int _
        rw [show (8 : Int) * (i : Int) = ((8 * i : Nat) : Int) by omega, shr_nat, show (255 : Int) = ((255 : Nat) : Int) from rfl, bAnd, show (255 : Nat) = 2 ^ 8 - 1 from rfl, Nat.and_two_pow_sub_one_eq_mod]
    · rintro σ H' ⟨⟨v, rfl⟩, rfl⟩
      refine ⟨_, rfl, q _ p (Kept.new hp) hp ?_⟩
      rw [Int.toNat_natCast]
      exact upd_same
def spTurned : Sp := fun vs H Q _ => ∃ (x n : Nat), vs = [nI x, nI n] ∧ x < 2 ^ 64 ∧ 0 < n ∧ n < 64 ∧ Q (nI (Ks345.turn n x)) H
theorem ok_turned (T : Txt K mg A) : FnOk P w K mg base CX0 1 A.f_turned A.d_turned P_turned spTurned := by
  refine T.F_turned.ok sc_turned (fun vs H Q E h => ?_) (fun cdv Ar outer s H vs Q E hr h => ⟨_, pss_one (ps_ret (pe_op op_and (pe_op op_or (pe_op op_shl (pv 0) (pv 1)) (pe_op op_shr (pv 0) (pe_op op_sub pe_int (pv 1)))) (pe_const T.k_MASK))), ?_⟩)
  · obtain ⟨x, n, rfl, _⟩ := h
    rfl
  · obtain ⟨x, n, rfl, hx, h1, h2, q⟩ := h
    refine ⟨_, rfl, _, rfl, _, _, rfl, rfl, ⟨Int.natCast_nonneg _, by omega, by omega⟩, _, rfl, _, rfl, _, _, rfl, rfl, _, _, rfl, rfl, by omega, _, _, rfl, rfl, _, _, rfl, rfl, ?_⟩
    have e : Builtin.bitAnd (Builtin.bitOr ((x : Int) * 2 ^ ((n : Int)).toNat) ((x : Int) / 2 ^ ((64 : Int) - (n : Int)).toNat)) 18446744073709551615 = ((Ks345.turn n x : Nat) : Int) := by
      rw [show (64 : Int) - (n : Int) = ((64 - n : Nat) : Int) by omega, shl_nat, shr_nat, bOr, show (18446744073709551615 : Int) = ((18446744073709551615 : Nat) : Int) from rfl, bAnd, turn_is hx h1 h2]
    show Q (V.int (Builtin.bitAnd (Builtin.bitOr ((x : Int) * 2 ^ ((n : Int)).toNat) ((x : Int) / 2 ^ ((64 : Int) - (n : Int)).toNat)) 18446744073709551615)) H
    rw [e]
    exact q
end
end LD

set_option maxRecDepth 100000
set_option maxHeartbeats 4000000
namespace LD
open PySem PySem.Spec PyProof.Rows L2
open PySem.W (Codec)
/-! ### the mixer -/
theorem ins_put {H : Hp} {p C dx : Addr} {f : Str} {y : V} {fs fs' : List (Str × V)} (he : putF f y fs = fs') : upd H p (.ins C dx (putF f y fs)) p = some (.ins C dx fs') := by
  rw [upd_same, he]
section
open Ks345 (Four)
def nMix : List Str := ["a", "b", "c", "d"]
def mF (v : Four) : List (Str × V) := [("a", nI v.a), ("b", nI v.b), ("c", nI v.c), ("d", nI v.d)]
def MixAt (A : Ad) (H : Hp) (p : Addr) (v : Four) : Prop := ∃ dx, H p = some (.ins A.C_Mixer dx (mF v))
theorem mF_a (v : Four) : (mF v).lookup ("a" : Str) = some (nI v.a) := lk_ix 0 nMix rfl (by decide +kernel) rfl
theorem mF_b (v : Four) : (mF v).lookup ("b" : Str) = some (nI v.b) := lk_ix 1 nMix rfl (by decide +kernel) rfl
theorem mF_c (v : Four) : (mF v).lookup ("c" : Str) = some (nI v.c) := lk_ix 2 nMix rfl (by decide +kernel) rfl
theorem mF_d (v : Four) : (mF v).lookup ("d" : Str) = some (nI v.d) := lk_ix 3 nMix rfl (by decide +kernel) rfl
theorem mF_pa (v : Four) (x : Nat) : putF "a" (nI x) (mF v) = mF { v with a := x } := (put_ix 0 nMix rfl (by decide +kernel)).trans rfl
theorem mF_pb (v : Four) (x : Nat) : putF "b" (nI x) (mF v) = mF { v with b := x } := (put_ix 1 nMix rfl (by decide +kernel)).trans rfl
theorem mF_pc (v : Four) (x : Nat) : putF "c" (nI x) (mF v) = mF { v with c := x } := (put_ix 2 nMix rfl (by decide +kernel)).trans rfl
theorem mF_pd (v : Four) (x : Nat) : putF "d" (nI x) (mF v) = mF { v with d := x } := (put_ix 3 nMix rfl (by decide +kernel)).trans rfl
theorem v_add (a b : Nat) : V.int (Builtin.bitAnd ((a : Int) + (b : Int)) 18446744073709551615) = nI (Ks345.add a b) := by
  rw [← Int.natCast_add, show (18446744073709551615 : Int) = ((18446744073709551615 : Nat) : Int) from rfl, bAnd, add_is]
theorem v_xor (a b : Nat) : V.int (Builtin.bitXor (a : Int) (b : Int)) = nI (a ^^^ b) := by
  rw [bXor]

theorem s1 (v : Four) : putF "a" (V.int (Builtin.bitAnd ((v.a : Int) + (v.b : Int)) 18446744073709551615)) (mF v) = mF (r1 v) := by
  rw [v_add, mF_pa]
  rfl
theorem s2 (v : Four) : putF "b" (V.int (Builtin.bitXor ((Ks345.turn 13 v.b : Nat) : Int) (v.a : Int))) (mF v) = mF (r2 v) := by
  rw [v_xor, mF_pb]
  rfl
theorem s3 (v : Four) : putF "a" (nI (Ks345.turn 32 v.a)) (mF v) = mF (r3 v) := by
  rw [mF_pa]
  rfl
theorem s4 (v : Four) : putF "c" (V.int (Builtin.bitAnd ((v.c : Int) + (v.d : Int)) 18446744073709551615)) (mF v) = mF (r4 v) := by
  rw [v_add, mF_pc]
  rfl
theorem s5 (v : Four) : putF "d" (V.int (Builtin.bitXor ((Ks345.turn 16 v.d : Nat) : Int) (v.c : Int))) (mF v) = mF (r5 v) := by
  rw [v_xor, mF_pd]
  rfl
theorem s6 (v : Four) : putF "a" (V.int (Builtin.bitAnd ((v.a : Int) + (v.d : Int)) 18446744073709551615)) (mF v) = mF (r6 v) := by
  rw [v_add, mF_pa]
  rfl
theorem s7 (v : Four) : putF "d" (V.int (Builtin.bitXor ((Ks345.turn 21 v.d : Nat) : Int) (v.a : Int))) (mF v) = mF (r7 v) := by
  rw [v_xor, mF_pd]
  rfl
theorem s8 (v : Four) : putF "c" (V.int (Builtin.bitAnd ((v.c : Int) + (v.b : Int)) 18446744073709551615)) (mF v) = mF (r8 v) := by
  rw [v_add, mF_pc]
  rfl
theorem s9 (v : Four) : putF "b" (V.int (Builtin.bitXor ((Ks345.turn 17 v.b : Nat) : Int) (v.c : Int))) (mF v) = mF (r9 v) := by
  rw [v_xor, mF_pb]
  rfl
theorem s10 (v : Four) : putF "c" (nI (Ks345.turn 32 v.c)) (mF v) = mF (r10 v) := by
  rw [mF_pc]
  rfl
end
section
open Ks345 (Four)
variable {P : Program} {w : World} {K : PySem.W.Frag} {mg : Str → Option Value} {base : Heap} {A : Ad}
def spMixOnce (A : Ad) : Sp := fun vs H Q _ => ∃ (p : Addr) (v : Four), vs = [.ref p] ∧ MixAt A H p v ∧ Ok v ∧ ∀ H', MixAt A H' p (Ks345.round v) → Kept [p] H H' → Q .non H'

theorem ok_mix_once (T : Txt K mg A) : FnOk P w K mg base CX0 2 A.f_Mixer_mix_once A.d_Mixer_mix_once P_Mixer_mix_once (spMixOnce A) := by
  have G : FnOk P w K mg base CX0 1 A.f_turned A.d_turned P_turned spTurned := ok_turned T
  refine T.F_Mixer_mix_once.ok sc_Mixer_mix_once (fun vs H Q E h => ?_) (fun cdv Ar outer s H vs Q E hr h => ⟨_, (pss_cons (ps_fld (pv 0) (pe_op op_and (pe_op op_add (pe_fld (pv 0) rfl) (pe_fld (pv 0) rfl)) (pe_const T.k_MASK)) rfl)
      (pss_cons (ps_fld (pv 0) (pe_op op_xor (pe_call G hr rfl T.g_turned T.F_turned.kp T.B_turned .nil pass0 (pa_cons (pe_fld (pv 0) rfl) (pa_cons pe_int pa_nil))) (pe_fld (pv 0) rfl)) rfl)
      (pss_cons (ps_fld (pv 0) (pe_call G hr rfl T.g_turned T.F_turned.kp T.B_turned .nil pass0 (pa_cons (pe_fld (pv 0) rfl) (pa_cons pe_int pa_nil))) rfl)
      (pss_cons (ps_fld (pv 0) (pe_op op_and (pe_op op_add (pe_fld (pv 0) rfl) (pe_fld (pv 0) rfl)) (pe_const T.k_MASK)) rfl)
      (pss_cons (ps_fld (pv 0) (pe_op op_xor (pe_call G hr rfl T.g_turned T.F_turned.kp T.B_turned .nil pass0 (pa_cons (pe_fld (pv 0) rfl) (pa_cons pe_int pa_nil))) (pe_fld (pv 0) rfl)) rfl)
      (pss_cons (ps_fld (pv 0) (pe_op op_and (pe_op op_add (pe_fld (pv 0) rfl) (pe_fld (pv 0) rfl)) (pe_const T.k_MASK)) rfl)
      (pss_cons (ps_fld (pv 0) (pe_op op_xor (pe_call G hr rfl T.g_turned T.F_turned.kp T.B_turned .nil pass0 (pa_cons (pe_fld (pv 0) rfl) (pa_cons pe_int pa_nil))) (pe_fld (pv 0) rfl)) rfl)
      (pss_cons (ps_fld (pv 0) (pe_op op_and (pe_op op_add (pe_fld (pv 0) rfl) (pe_fld (pv 0) rfl)) (pe_const T.k_MASK)) rfl)
      (pss_cons (ps_fld (pv 0) (pe_op op_xor (pe_call G hr rfl T.g_turned T.F_turned.kp T.B_turned .nil pass0 (pa_cons (pe_fld (pv 0) rfl) (pa_cons pe_int pa_nil))) (pe_fld (pv 0) rfl)) rfl)
      (pss_one (ps_fld (pv 0) (pe_call G hr rfl T.g_turned T.F_turned.kp T.B_turned .nil pass0 (pa_cons (pe_fld (pv 0) rfl) (pa_cons pe_int pa_nil))) rfl))))))))))), ?_⟩)
  · obtain ⟨p, v, rfl, _⟩ := h
    rfl
  · obtain ⟨p, v, rfl, ⟨dx, e⟩, ok, q⟩ := h
    refine ⟨_, rfl, _, _, dx, _, _, rfl, e, T.cl_Mixer, T.no_Mixer_a, mF_a _, ⟨_, rfl, _, _, dx, _, _, rfl, e, T.cl_Mixer, T.no_Mixer_b, mF_b _, ⟨_, _, rfl, rfl, _, _, rfl, rfl, ⟨_, rfl, p, _, dx, _, rfl, e, T.cl_Mixer, T.no_Mixer_a, (by show 4 < 1000; decide), ?_⟩⟩⟩⟩
    have ok1 := r1_ok ok
    refine ⟨_, rfl, _, _, dx, _, _, rfl, (ins_put (s1 _)), T.cl_Mixer, T.no_Mixer_b, mF_b _, ⟨_, 13, rfl, ok1.2.1, by decide, by decide, ⟨_, rfl, _, _, dx, _, _, rfl, (ins_put (s1 _)), T.cl_Mixer, T.no_Mixer_a, mF_a _, ⟨_, _, rfl, rfl, ⟨_, rfl, p, _, dx, _, rfl, (ins_put (s1 _)), T.cl_Mixer, T.no_Mixer_b, (by show 4 < 1000; decide), ?_⟩⟩⟩⟩⟩
    have ok2 := r2_ok ok1
    refine ⟨_, rfl, _, _, dx, _, _, rfl, (ins_put (s2 _)), T.cl_Mixer, T.no_Mixer_a, mF_a _, ⟨_, 32, rfl, ok2.1, by decide, by decide, ⟨_, rfl, p, _, dx, _, rfl, (ins_put (s2 _)), T.cl_Mixer, T.no_Mixer_a, (by show 4 < 1000; decide), ?_⟩⟩⟩
    have ok3 := r3_ok ok2
    refine ⟨_, rfl, _, _, dx, _, _, rfl, (ins_put (s3 _)), T.cl_Mixer, T.no_Mixer_c, mF_c _, ⟨_, rfl, _, _, dx, _, _, rfl, (ins_put (s3 _)), T.cl_Mixer, T.no_Mixer_d, mF_d _, ⟨_, _, rfl, rfl, _, _, rfl, rfl, ⟨_, rfl, p, _, dx, _, rfl, (ins_put (s3 _)), T.cl_Mixer, T.no_Mixer_c, (by show 4 < 1000; decide), ?_⟩⟩⟩⟩
    have ok4 := r4_ok ok3
    refine ⟨_, rfl, _, _, dx, _, _, rfl, (ins_put (s4 _)), T.cl_Mixer, T.no_Mixer_d, mF_d _, ⟨_, 16, rfl, ok4.2.2.2, by decide, by decide, ⟨_, rfl, _, _, dx, _, _, rfl, (ins_put (s4 _)), T.cl_Mixer, T.no_Mixer_c, mF_c _, ⟨_, _, rfl, rfl, ⟨_, rfl, p, _, dx, _, rfl, (ins_put (s4 _)), T.cl_Mixer, T.no_Mixer_d, (by show 4 < 1000; decide), ?_⟩⟩⟩⟩⟩
    have ok5 := r5_ok ok4
    refine ⟨_, rfl, _, _, dx, _, _, rfl, (ins_put (s5 _)), T.cl_Mixer, T.no_Mixer_a, mF_a _, ⟨_, rfl, _, _, dx, _, _, rfl, (ins_put (s5 _)), T.cl_Mixer, T.no_Mixer_d, mF_d _, ⟨_, _, rfl, rfl, _, _, rfl, rfl, ⟨_, rfl, p, _, dx, _, rfl, (ins_put (s5 _)), T.cl_Mixer, T.no_Mixer_a, (by show 4 < 1000; decide), ?_⟩⟩⟩⟩
    have ok6 := r6_ok ok5
    refine ⟨_, rfl, _, _, dx, _, _, rfl, (ins_put (s6 _)), T.cl_Mixer, T.no_Mixer_d, mF_d _, ⟨_, 21, rfl, ok6.2.2.2, by decide, by decide, ⟨_, rfl, _, _, dx, _, _, rfl, (ins_put (s6 _)), T.cl_Mixer, T.no_Mixer_a, mF_a _, ⟨_, _, rfl, rfl, ⟨_, rfl, p, _, dx, _, rfl, (ins_put (s6 _)), T.cl_Mixer, T.no_Mixer_d, (by show 4 < 1000; decide), ?_⟩⟩⟩⟩⟩
    have ok7 := r7_ok ok6
    refine ⟨_, rfl, _, _, dx, _, _, rfl, (ins_put (s7 _)), T.cl_Mixer, T.no_Mixer_c, mF_c _, ⟨_, rfl, _, _, dx, _, _, rfl, (ins_put (s7 _)), T.cl_Mixer, T.no_Mixer_b, mF_b _, ⟨_, _, rfl, rfl, _, _, rfl, rfl, ⟨_, rfl, p, _, dx, _, rfl, (ins_put (s7 _)), T.cl_Mixer, T.no_Mixer_c, (by show 4 < 1000; decide), ?_⟩⟩⟩⟩
    have ok8 := r8_ok ok7
    refine ⟨_, rfl, _, _, dx, _, _, rfl, (ins_put (s8 _)), T.cl_Mixer, T.no_Mixer_b, mF_b _, ⟨_, 17, rfl, ok8.2.1, by decide, by decide, ⟨_, rfl, _, _, dx, _, _, rfl, (ins_put (s8 _)), T.cl_Mixer, T.no_Mixer_c, mF_c _, ⟨_, _, rfl, rfl, ⟨_, rfl, p, _, dx, _, rfl, (ins_put (s8 _)), T.cl_Mixer, T.no_Mixer_b, (by show 4 < 1000; decide), ?_⟩⟩⟩⟩⟩
    have ok9 := r9_ok ok8
    refine ⟨_, rfl, _, _, dx, _, _, rfl, (ins_put (s9 _)), T.cl_Mixer, T.no_Mixer_c, mF_c _, ⟨_, 32, rfl, ok9.2.2.1, by decide, by decide, ⟨_, rfl, p, _, dx, _, rfl, (ins_put (s9 _)), T.cl_Mixer, T.no_Mixer_c, (by show 4 < 1000; decide), ?_⟩⟩⟩
    have ok10 := r10_ok ok9
    refine q _ ?_ ?_
    · rw [round_is]
      exact ⟨dx, ins_put (s10 _)⟩
    · exact (Kept.trans (Kept.trans (Kept.trans (Kept.trans (Kept.trans (Kept.trans (Kept.trans (Kept.trans (Kept.trans (Kept.put (List.mem_singleton.mpr rfl)) (Kept.put (List.mem_singleton.mpr rfl))) (Kept.put (List.mem_singleton.mpr rfl))) (Kept.put (List.mem_singleton.mpr rfl))) (Kept.put (List.mem_singleton.mpr rfl))) (Kept.put (List.mem_singleton.mpr rfl))) (Kept.put (List.mem_singleton.mpr rfl))) (Kept.put (List.mem_singleton.mpr rfl))) (Kept.put (List.mem_singleton.mpr rfl))) (Kept.put (List.mem_singleton.mpr rfl)))
end
end LD

set_option maxRecDepth 100000
set_option maxHeartbeats 4000000
namespace LD
open PySem PySem.Spec PyProof.Rows L2
open PySem.W (Codec)
section
open Ks345 (Four)
variable {P : Program} {w : World} {K : PySem.W.Frag} {mg : Str → Option Value} {base : Heap} {A : Ad}
/-- key: sixteen bytes that are read; the new instance's number four are begun -/
def spMixInit (K : PySem.W.Frag) (A : Ad) : Sp := fun vs H Q _ => ∃ (p dx k : Addr) (key : List Nat), vs = [.ref p, .ref k] ∧ H p = some (.ins A.C_Mixer dx []) ∧ SqL K H k (nums key) ∧
  ∀ H' u, u = Ks345.begun key → MixAt A H' p u → Kept [p] H H' → Q .non H'
theorem mi0 (x : Nat) : putF "a" (V.int (Builtin.bitXor 8317987319222330741 (x : Int))) ([] : List (Str × V)) = ([("a", nI (x ^^^ 8317987319222330741))] : List (Str × V)) := by
  rw [show (8317987319222330741 : Int) = ((8317987319222330741 : Nat) : Int) from rfl, v_xor, Nat.xor_comm]
  rfl
theorem mi1 (a x : Nat) : putF "b" (V.int (Builtin.bitXor 7237128888997146477 (x : Int))) ([("a", nI a)] : List (Str × V)) = ([("a", nI a), ("b", nI (x ^^^ 7237128888997146477))] : List (Str × V)) := by
  rw [show (7237128888997146477 : Int) = ((7237128888997146477 : Nat) : Int) from rfl, v_xor, Nat.xor_comm]
  exact put_end ["a"] rfl (by decide +kernel)
theorem mi2 (a b x : Nat) : putF "c" (V.int (Builtin.bitXor 7816392313619706465 (x : Int))) ([("a", nI a), ("b", nI b)] : List (Str × V)) = ([("a", nI a), ("b", nI b), ("c", nI (x ^^^ 7816392313619706465))] : List (Str × V)) := by
  rw [show (7816392313619706465 : Int) = ((7816392313619706465 : Nat) : Int) from rfl, v_xor, Nat.xor_comm]
  exact put_end ["a", "b"] rfl (by decide +kernel)
theorem mi3 (a b c x : Nat) : putF "d" (V.int (Builtin.bitXor 8387220255154660723 (x : Int))) ([("a", nI a), ("b", nI b), ("c", nI c)] : List (Str × V)) = ([("a", nI a), ("b", nI b), ("c", nI c), ("d", nI (x ^^^ 8387220255154660723))] : List (Str × V)) := by
  rw [show (8387220255154660723 : Int) = ((8387220255154660723 : Nat) : Int) from rfl, v_xor, Nat.xor_comm]
  exact put_end ["a", "b", "c"] rfl (by decide +kernel)
theorem ok_Mixer_init (T : Txt K mg A) : FnOk P w K mg base CX0 2 A.f_Mixer_init A.d_Mixer_init P_Mixer_init (spMixInit K A) := by
  have G : FnOk P w K mg base CX0 1 A.f_number_from A.d_number_from P_number_from (spNum K) := ok_number_from T
  refine T.F_Mixer_init.ok sc_Mixer_init (fun vs H Q E h => ?_) (fun cdv Ar outer s H vs Q E hr h => ⟨_,
    pss_cons (ps_set (i := 2) sc_Mixer_init.nd rfl (Or.inl rfl) (pe_call G hr rfl T.g_number_from T.F_number_from.kp T.B_number_from .nil pass0 (pa_cons (pe_slice sl_list (pv 1) po_none (po_some pe_int)) pa_nil)))
    (pss_cons (ps_set (i := 3) sc_Mixer_init.nd rfl (Or.inl rfl) (pe_call G hr rfl T.g_number_from T.F_number_from.kp T.B_number_from .nil pass0 (pa_cons (pe_slice sl_list (pv 1) (po_some pe_int) po_none) pa_nil)))
    (pss_cons (ps_fld (pv 0) (pe_op op_xor pe_int (pv 2)) rfl)
    (pss_cons (ps_fld (pv 0) (pe_op op_xor pe_int (pv 3)) rfl)
    (pss_cons (ps_fld (pv 0) (pe_op op_xor pe_int (pv 2)) rfl)
    (pss_one (ps_fld (pv 0) (pe_op op_xor pe_int (pv 3)) rfl)))))), ?_⟩)
  · obtain ⟨p, dx, k, key, rfl, _⟩ := h
    rfl
  · obtain ⟨p, dx, k, key, rfl, hp, hk, q⟩ := h
    refine ⟨_, rfl, _, rfl, k, nums key, rfl, hk, fun x hx => ?_⟩
    have k1 : Kept [] H (upd H x (.lst (cutV (nums key) none (some 8)))) := Kept.new hx
    refine ⟨x, key.take 8, rfl, SqL.of (upd_same.trans (congrArg (fun z => some (HO.lst z)) (nums_upto (j := 8)))), ?_⟩
    refine ⟨_, rfl, _, rfl, k, nums key, rfl, k1.seq0 hk, fun y hy => ?_⟩
    have k2 : Kept [] H (upd (upd H x (.lst (cutV (nums key) none (some 8)))) y (.lst (cutV (nums key) (some 8) none))) := k1.trans (Kept.new hy)
    refine ⟨y, key.drop 8, rfl, SqL.of (upd_same.trans (congrArg (fun z => some (HO.lst z)) (nums_from (i := 8)))), ?_⟩
    have e0 := k2.at0 hp
    refine ⟨_, rfl, _, _, rfl, rfl, _, rfl, p, _, dx, _, rfl, e0, T.cl_Mixer, T.no_Mixer_a, (by show 0 < 1000; decide), ?_⟩
    refine ⟨_, rfl, _, _, rfl, rfl, _, rfl, p, _, dx, _, rfl, ins_put (mi0 _), T.cl_Mixer, T.no_Mixer_b, (by show 1 < 1000; decide), ?_⟩
    refine ⟨_, rfl, _, _, rfl, rfl, _, rfl, p, _, dx, _, rfl, ins_put (mi1 _ _), T.cl_Mixer, T.no_Mixer_c, (by show 2 < 1000; decide), ?_⟩
    refine ⟨_, rfl, _, _, rfl, rfl, _, rfl, p, _, dx, _, rfl, ins_put (mi2 _ _ _), T.cl_Mixer, T.no_Mixer_d, (by show 3 < 1000; decide), ?_⟩
    have m : p ∈ [p] := List.mem_singleton.mpr rfl
    exact q _ _ rfl ⟨dx, ins_put (mi3 _ _ _ _)⟩ ((((k2.any.trans (Kept.put m)).trans (Kept.put m)).trans (Kept.put m)).trans (Kept.put m))
def spMix (A : Ad) : Sp := fun vs H Q _ => ∃ (p : Addr) (v : Four) (n : Nat), vs = [.ref p, nI n] ∧ n ≤ 1000 ∧ MixAt A H p v ∧ Ok v ∧ ∀ H' u, u = Ks345.rounds n v → MixAt A H' p u → Kept [p] H H' → Q .non H'
theorem ok_Mixer_mix (T : Txt K mg A) : FnOk P w K mg base CX0 3 A.f_Mixer_mix A.d_Mixer_mix P_Mixer_mix (spMix A) := by
  have G : FnOk P w K mg base CX0 2 A.f_Mixer_mix_once A.d_Mixer_mix_once P_Mixer_mix_once (spMixOnce A) := ok_mix_once T
  refine T.F_Mixer_mix.ok sc_Mixer_mix (fun vs H Q E h => ?_) (fun cdv Ar outer s H vs Q E hr h => ⟨_,
    pss_one (ps_for PassesOwn.never rfl (pi_range1 rfl T.b_range (pa_cons (pv 1) pa_nil)) (pg_name (i := 2) sc_Mixer_mix.nd rfl (Or.inl rfl))
      (pss_one (ps_expr (pe_meth0 (pv 0) T.cl_Mixer T.M_Mixer_mix_once G hr T.B_Mixer_mix_once .nil pass0)))), ?_⟩)
  · obtain ⟨p, v, n, rfl, _⟩ := h
    rfl
  · obtain ⟨p, v, n, rfl, hn, hm, ok, q⟩ := h
    refine ⟨_, rfl, (n : Int), rfl, by omega, by omega, ?_⟩
    refine for_range (lo := 0) (n := (n : Int).toNat) (fun i σ H' => (∃ z, σ = [some (.ref p), some (nI n), z]) ∧ MixAt A H' p (Ks345.rounds i v) ∧ Kept [p] H H') ?_ ?_ ?_
    · refine ⟨⟨none, rfl⟩, ?_, Kept.refl _ _⟩
      rw [rounds_z]
      exact hm
    · rintro i σ H' hi ⟨⟨z, rfl⟩, ⟨dx, e⟩, k1⟩
      refine ⟨_, rfl, p, dx, _, rfl, e, lk_no nMix rfl (by decide +kernel), p, Ks345.rounds i v, rfl, ⟨dx, e⟩, rounds_ok i v ok, fun H2 m2 k2 => ⟨⟨_, rfl⟩, ?_, k1.trans k2⟩⟩
      rw [rounds_succ]
      exact m2
    · rintro σ H' ⟨⟨z, rfl⟩, m1, k1⟩
      rw [Int.toNat_natCast] at m1
      exact q _ _ rfl m1 k1
def spTake (A : Ad) : Sp := fun vs H Q _ => ∃ (p : Addr) (v : Four) (m : Nat), vs = [.ref p, nI m] ∧ MixAt A H p v ∧ Ok v ∧ m < 2 ^ 64 ∧ ∀ H' u, u = Ks345.word v m → MixAt A H' p u → Kept [p] H H' → Q .non H'
theorem tk1 (v : Four) (m : Nat) : putF "d" (V.int (Builtin.bitXor (v.d : Int) (m : Int))) (mF v) = mF (w1 v m) := by
  rw [v_xor, mF_pd]
  rfl
theorem tk2 (v : Four) (m : Nat) : putF "a" (V.int (Builtin.bitXor (v.a : Int) (m : Int))) (mF v) = mF (w2 v m) := by
  rw [v_xor, mF_pa]
  rfl
theorem ok_Mixer_take_in (T : Txt K mg A) : FnOk P w K mg base CX0 4 A.f_Mixer_take_in A.d_Mixer_take_in P_Mixer_take_in (spTake A) := by
  have G : FnOk P w K mg base CX0 3 A.f_Mixer_mix A.d_Mixer_mix P_Mixer_mix (spMix A) := ok_Mixer_mix T
  refine T.F_Mixer_take_in.ok sc_Mixer_take_in (fun vs H Q E h => ?_) (fun cdv Ar outer s H vs Q E hr h => ⟨_,
    pss_cons (ps_fld (pv 0) (pe_op op_xor (pe_fld (pv 0) rfl) (pv 1)) rfl)
    (pss_cons (ps_expr (pe_meth (pv 0) T.cl_Mixer T.M_Mixer_mix G hr T.B_Mixer_mix .nil pass0 (pa_cons pe_int pa_nil)))
    (pss_one (ps_fld (pv 0) (pe_op op_xor (pe_fld (pv 0) rfl) (pv 1)) rfl))), ?_⟩)
  · obtain ⟨p, v, m, rfl, _⟩ := h
    rfl
  · obtain ⟨p, v, m, rfl, ⟨dx, e⟩, ok, hm, q⟩ := h
    refine ⟨_, rfl, _, _, dx, _, _, rfl, e, T.cl_Mixer, T.no_Mixer_d, mF_d _, _, rfl, _, _, rfl, rfl, _, rfl, p, _, dx, _, rfl, e, T.cl_Mixer, T.no_Mixer_d, (by show 4 < 1000; decide), ?_⟩
    refine ⟨_, rfl, p, dx, _, rfl, ins_put (tk1 _ _), lk_no nMix rfl (by decide +kernel), p, w1 v m, 2, rfl, by decide, ⟨dx, ins_put (tk1 _ _)⟩, w1_ok ok hm, fun H2 u hu ⟨d2, m2⟩ k2 => ?_⟩
    refine ⟨_, rfl, _, _, d2, _, _, rfl, m2, T.cl_Mixer, T.no_Mixer_a, mF_a _, _, rfl, _, _, rfl, rfl, _, rfl, p, _, d2, _, rfl, m2, T.cl_Mixer, T.no_Mixer_a, (by show 4 < 1000; decide), ?_⟩
    refine q _ (w2 u m) ?_ ⟨d2, ins_put (tk2 _ _)⟩ (((Kept.put (List.mem_singleton.mpr rfl)).trans k2).trans (Kept.put (List.mem_singleton.mpr rfl)))
    rw [word_is, ← hu]
def spFinish (A : Ad) : Sp := fun vs H Q _ => ∃ (p : Addr) (v : Four), vs = [.ref p] ∧ MixAt A H p v ∧ Ok v ∧ ∀ H', Kept [p] H H' → Q (nI (out (finish v))) H'
theorem fi1 (v : Four) : putF "c" (V.int (Builtin.bitXor (v.c : Int) 255)) (mF v) = mF (f1 v) := by
  rw [show (255 : Int) = ((255 : Nat) : Int) from rfl, v_xor, mF_pc]
  rfl
theorem ok_Mixer_finish (T : Txt K mg A) : FnOk P w K mg base CX0 4 A.f_Mixer_finish A.d_Mixer_finish P_Mixer_finish (spFinish A) := by
  have G : FnOk P w K mg base CX0 3 A.f_Mixer_mix A.d_Mixer_mix P_Mixer_mix (spMix A) := ok_Mixer_mix T
  refine T.F_Mixer_finish.ok sc_Mixer_finish (fun vs H Q E h => ?_) (fun cdv Ar outer s H vs Q E hr h => ⟨_,
    pss_cons (ps_fld (pv 0) (pe_op op_xor (pe_fld (pv 0) rfl) pe_int) rfl)
    (pss_cons (ps_expr (pe_meth (pv 0) T.cl_Mixer T.M_Mixer_mix G hr T.B_Mixer_mix .nil pass0 (pa_cons pe_int pa_nil)))
    (pss_one (ps_ret (pe_op op_xor (pe_op op_xor (pe_op op_xor (pe_fld (pv 0) rfl) (pe_fld (pv 0) rfl)) (pe_fld (pv 0) rfl)) (pe_fld (pv 0) rfl))))), ?_⟩)
  · obtain ⟨p, v, rfl, _⟩ := h
    rfl
  · obtain ⟨p, v, rfl, ⟨dx, e⟩, ok, q⟩ := h
    refine ⟨_, rfl, _, _, dx, _, _, rfl, e, T.cl_Mixer, T.no_Mixer_c, mF_c _, _, _, rfl, rfl, _, rfl, p, _, dx, _, rfl, e, T.cl_Mixer, T.no_Mixer_c, (by show 4 < 1000; decide), ?_⟩
    refine ⟨_, rfl, p, dx, _, rfl, ins_put (fi1 _), lk_no nMix rfl (by decide +kernel), p, f1 v, 4, rfl, by decide, ⟨dx, ins_put (fi1 _)⟩, f1_ok ok, fun H2 u hu ⟨d2, m2⟩ k2 => ?_⟩
    have r := q H2 ((Kept.put (List.mem_singleton.mpr rfl)).trans k2)
    rw [finish_is, ← hu] at r
    refine ⟨_, rfl, _, _, d2, _, _, rfl, m2, T.cl_Mixer, T.no_Mixer_a, mF_a _, _, rfl, _, _, d2, _, _, rfl, m2, T.cl_Mixer, T.no_Mixer_b, mF_b _, _, _, rfl, rfl, _, rfl, _, _, d2, _, _, rfl, m2, T.cl_Mixer, T.no_Mixer_c, mF_c _, _, _, rfl, rfl,
      _, rfl, _, _, d2, _, _, rfl, m2, T.cl_Mixer, T.no_Mixer_d, mF_d _, _, _, rfl, rfl, ?_⟩
    show Q (V.int (Builtin.bitXor (Builtin.bitXor (Builtin.bitXor (u.a : Int) (u.b : Int)) (u.c : Int)) (u.d : Int))) H2
    rw [bXor, bXor, bXor]
    exact r
end
end LD

set_option maxRecDepth 100000
set_option maxHeartbeats 4000000
namespace LD
open PySem PySem.Spec PyProof.Rows L2
open PySem.W (Codec)
section
open Ks345 (Four)
variable {P : Program} {w : World} {K : PySem.W.Frag} {mg : Str → Option Value} {base : Heap} {A : Ad}
/-- the words of a message of eight bytes, a new list -/
def spWords (K : PySem.W.Frag) : Sp := fun vs H Q _ => ∃ (a : Addr) (m : List Nat), vs = [.ref a] ∧ SqL K H a (nums m) ∧ m.length = 8 ∧ ∀ H' p, Kept [] H H' → H p = none → H' p = some (.lst (nums (words m))) → Q (.ref p) H'
theorem wd_last : V.int (Builtin.bitOr ((Ks345.number [] : Nat) : Int) ((8 : Int) * 2 ^ ((56 : Int)).toNat)) = nI (8 * 2 ^ 56) := by
  decide +kernel
theorem ok_words_of (T : Txt K mg A) : FnOk P w K mg base CX0 2 A.f_words_of A.d_words_of P_words_of (spWords K) := by
  have G : FnOk P w K mg base CX0 1 A.f_number_from A.d_number_from P_number_from (spNum K) := ok_number_from T
  refine T.F_words_of.ok sc_words_of (fun vs H Q E h => ?_) (fun cdv Ar outer s H vs Q E hr h => ⟨_,
    pss_cons (ps_set (i := 1) sc_words_of.nd rfl (Or.inl rfl) (pe_lst pa_nil))
    (pss_cons (ps_set (i := 2) sc_words_of.nd rfl (Or.inl rfl) pe_int)
    (pss_cons (ps_while PassesOwn.never (pt_cmpR op_ge (pe_op op_sub (pe_callB call_len_seq (by rfl) T.b_len PySem.boot_len (pa_cons (pv 0) pa_nil)) (pv 2)) pe_int (nomark _))
      (pss_cons (ps_expr (pe_bm PySem.F.plainAttrs_list PySem.F.slot_list_append PySem.F.type_list_append mt_append (pv 1)
        (pa_cons (pe_call G hr rfl T.g_number_from T.F_number_from.kp T.B_number_from .nil pass0 (pa_cons (pe_slice sl_list (pv 0) (po_some (pv 2)) (po_some (pe_op op_add (pv 2) pe_int))) pa_nil)) pa_nil)))
      (pss_one (ps_set (i := 2) sc_words_of.nd rfl (Or.inl rfl) (pe_op op_add (pv 2) pe_int)))))
    (pss_cons (ps_set (i := 3) sc_words_of.nd rfl (Or.inl rfl) (pe_op op_mod (pe_callB call_len_seq (by rfl) T.b_len PySem.boot_len (pa_cons (pv 0) pa_nil)) pe_int))
    (pss_cons (ps_expr (pe_bm PySem.F.plainAttrs_list PySem.F.slot_list_append PySem.F.type_list_append mt_append (pv 1)
      (pa_cons (pe_op op_or (pe_call G hr rfl T.g_number_from T.F_number_from.kp T.B_number_from .nil pass0 (pa_cons (pe_slice sl_list (pv 0) (po_some (pv 2)) po_none) pa_nil)) (pe_op op_shl (pv 3) pe_int)) pa_nil)))
    (pss_one (ps_ret (pv 1))))))), ?_⟩)
  · obtain ⟨a, m, rfl, _⟩ := h
    rfl
  · obtain ⟨a, m, rfl, hl, h8, q⟩ := h
    have hlen : ((nums m).length : Int) = 8 := by rw [nums_len, h8]; rfl
    refine ⟨(by show 0 ≤ sizeLine; decide), fun p hp => ?_⟩
    refine ⟨fun n σ H' => ∃ j : Nat, n = 1 - j ∧ j ≤ 1 ∧ σ = [some (.ref a), some (.ref p), some (nI (8 * j)), none] ∧ Kept [] H H' ∧ H' p = some (.lst (nums ((words m).take j))), ⟨1, 0, rfl, by decide, rfl, Kept.new hp, upd_same⟩, ?_⟩
    rintro n σ H' ⟨j, rfl, hj, rfl, k1, e1⟩
    refine ⟨_, rfl, a, _, rfl, .inl (k1.seq0 hl), _, rfl, _, _, rfl, rfl, _, _, rfl, rfl, _, rfl, ?_⟩
    rw [hlen]
    match j, hj with
    | 0, _ =>
      refine if_true_of (decide_eq_true (by show (8 : Int) ≤ 8 - ((8 * 0 : Nat) : Int); decide)) ?_
      refine ⟨fun σ' H2 => σ' = [some (.ref a), some (.ref p), some (nI (8 * 1)), none] ∧ Kept [] H H2 ∧ H2 p = some (.lst (nums ((words m).take 1))), fun σ' H2 ⟨e2, k2, e3⟩ => ⟨0, by decide, 1, rfl, by decide, e2, k2, e3⟩, ?_⟩
      refine ⟨_, rfl, .inl ⟨rfl, _, SqL.of e1⟩, _, rfl, _, rfl, _, rfl, _, rfl, _, _, rfl, rfl, _, rfl, a, _, rfl, k1.seq0 hl, fun y hy => ?_⟩
      refine ⟨y, m, rfl, SqL.of (upd_same.trans (congrArg (fun z => some (HO.lst z)) ((nums_cut (i := 0) (j := 8)).trans ?_))), p, _, _, rfl, rfl, (Kept.new (ex := []) hy).at0 e1, ?_, ?_⟩
      · rw [List.drop_zero, List.take_of_length_le (by omega)]
      · refine small1000 ?_
        rw [nums_len, List.length_take]
        omega
      · refine ⟨_, rfl, _, _, rfl, rfl, rfl, ?_, ?_⟩
        · exact Kept.drop (p := p) ((k1.any.trans (Kept.new hy)).trans (Kept.put (List.mem_cons_self ..))) hp
        · exact upd_same
    | 1, _ =>
      refine if_false_of (decide_eq_false (by show ¬ (8 : Int) ≤ 8 - ((8 * 1 : Nat) : Int); decide)) ?_
      refine ⟨_, rfl, a, _, rfl, .inl (k1.seq0 hl), _, _, rfl, rfl, (by show (0 : Int) < 256; decide), ?_⟩
      rw [hlen]
      refine ⟨_, rfl, .inl ⟨rfl, _, SqL.of e1⟩, _, rfl, _, rfl, _, rfl, a, _, rfl, k1.seq0 hl, fun y hy => ?_⟩
      refine ⟨y, [], rfl, SqL.of (upd_same.trans (congrArg (fun z => some (HO.lst z)) ((nums_from (i := 8)).trans ?_))), _, rfl, _, _, rfl, rfl, ⟨by decide, by decide, by decide⟩, _, _, rfl, rfl, p, _, _, rfl, rfl, (Kept.new (ex := []) hy).at0 e1, ?_, ?_⟩
      · rw [List.drop_eq_nil_of_le (by omega)]
      · refine small1000 ?_
        rw [nums_len, List.length_take]
        omega
      · refine ⟨_, rfl, q _ p ?_ hp ?_⟩
        · exact Kept.drop (p := p) ((k1.any.trans (Kept.new hy)).trans (Kept.put (List.mem_cons_self ..))) hp
        · refine upd_same.trans (congrArg (fun z => some (HO.lst z)) ?_)
          show [nI (Ks345.number m)] ++ [V.int (Builtin.bitOr ((Ks345.number [] : Nat) : Int) (((8 : Int) % 256) * 2 ^ ((56 : Int)).toNat))] = [nI (Ks345.number m), nI (8 * 2 ^ 56)]
          rw [show ((8 : Int) % 256) = 8 from by decide, wd_last]
          rfl
def spTag (K : PySem.W.Frag) : Sp := fun vs H Q _ => ∃ (a k : Addr) (m key : List Nat), vs = [.ref a, .ref k] ∧ SqL K H a (nums m) ∧ SqL K H k (nums key) ∧ m.length = 8 ∧ B8 m ∧ key.length = 16 ∧ B8 key ∧
  ∀ H' p, Kept [] H H' → H p = none → H' p = some (.lst (nums (Ks345.bytes 8 (Ks345.tag key m)))) → Q (.ref p) H'
theorem ok_tag_of (T : Txt K mg A) : FnOk P w K mg base CX0 5 A.f_tag_of A.d_tag_of P_tag_of (spTag K) := by
  have GI : FnOk P w K mg base CX0 2 A.f_Mixer_init A.d_Mixer_init P_Mixer_init (spMixInit K A) := ok_Mixer_init T
  have GW : FnOk P w K mg base CX0 2 A.f_words_of A.d_words_of P_words_of (spWords K) := ok_words_of T
  have GT : FnOk P w K mg base CX0 4 A.f_Mixer_take_in A.d_Mixer_take_in P_Mixer_take_in (spTake A) := ok_Mixer_take_in T
  have GF : FnOk P w K mg base CX0 4 A.f_Mixer_finish A.d_Mixer_finish P_Mixer_finish (spFinish A) := ok_Mixer_finish T
  have GO : FnOk P w K mg base CX0 1 A.f_octets_from A.d_octets_from P_octets_from (spOct K) := ok_octets_from T
  refine T.F_tag_of.ok sc_tag_of (fun vs H Q E h => ?_) (fun cdv Ar outer s H vs Q E hr h => ⟨_,
    pss_cons (ps_set (i := 2) sc_tag_of.nd rfl (Or.inl rfl) (pe_make T.mk_Mixer GI (hr.mono (by decide)) rfl T.gc_Mixer T.B_Mixer_init .nil pass0 (pa_cons (pv 1) pa_nil)))
    (pss_cons (ps_for PassesOwn.never rfl (pi_list (pe_call GW (hr.mono (by decide)) rfl T.g_words_of T.F_words_of.kp T.B_words_of .nil pass0 (pa_cons (pv 0) pa_nil))) (pg_name (i := 3) sc_tag_of.nd rfl (Or.inl rfl))
      (pss_one (ps_expr (pe_meth (pv 2) T.cl_Mixer T.M_Mixer_take_in GT hr T.B_Mixer_take_in .nil pass0 (pa_cons (pv 3) pa_nil)))))
    (pss_one (ps_ret (pe_call GO (hr.mono (by decide)) rfl T.g_octets_from T.F_octets_from.kp T.B_octets_from .nil pass0 (pa_cons (pe_meth0 (pv 2) T.cl_Mixer T.M_Mixer_finish GF hr T.B_Mixer_finish .nil pass0) (pa_cons pe_int pa_nil)))))), ?_⟩)
  · obtain ⟨a, k, m, key, rfl, _⟩ := h
    rfl
  · obtain ⟨a, k, m, key, rfl, hm, hk, m8, mb, k16, kb, q⟩ := h
    have okb := begun_ok kb k16
    have wl := words_lt mb m8
    have et := tag_8 (key := key) m8
    refine ⟨_, rfl, fun x dx nx nd ne => ?_⟩
    refine ⟨x, dx, k, key, rfl, upd_same, ((Kept.new nd).trans (Kept.new (by rw [upd_ne ne.symm]; exact nx))).seq0 hk, fun H1 v0 hv0 m1 k1 => ⟨rfl, ?_⟩⟩
    rw [← hv0] at okb et
    clear hv0
    have k01 : Kept [] H H1 := Kept.made nx nd k1
    refine ⟨_, rfl, a, m, rfl, k01.seq0 hm, m8, fun H2 l k2 nl el => ?_⟩
    have hx1 : ∀ {o}, H1 x = some o → l ≠ x := fun e z => by
      subst z
      rw [nl] at e
      cases e
    obtain ⟨d1, m1⟩ := m1
    have hlx := hx1 m1
    refine ⟨l, rfl, ⟨_, SqL.of el⟩, for_list (K := K) (a := l) (xs := nums (words m)) (fun i σ H' => (∃ z, σ = [some (.ref a), some (.ref k), some (.ref x), z]) ∧ MixAt A H' x (((words m).take i).foldl Ks345.word v0) ∧ Ok (((words m).take i).foldl Ks345.word v0) ∧ Kept [x] H2 H') ?_ ?_ ?_ ?_⟩
    · exact ⟨⟨none, rfl⟩, ⟨d1, k2.at0 m1⟩, okb, Kept.refl _ _⟩
    · rintro i σ H' _ ⟨_, _, _, k3⟩
      exact SqL.of (k3.at el (no1 hlx))
    · rintro i y σ H' hi ⟨⟨z, rfl⟩, ⟨d3, m3⟩, ok3, k3⟩
      obtain ⟨n, hn, rfl⟩ := nums_get hi
      have hw : n < 2 ^ 64 := wl n (List.mem_of_getElem? hn)
      have e4 : (words m).take (i + 1) = (words m).take i ++ [n] := by
        rw [List.take_succ, hn]
        rfl
      refine ⟨_, rfl, x, d3, _, rfl, m3, lk_no nMix rfl (by decide +kernel), _, rfl, x, _, n, rfl, ⟨d3, m3⟩, ok3, hw, fun H4 u hu m4 k4 => ?_⟩
      have e5 : ((words m).take (i + 1)).foldl Ks345.word v0 = u := by
        rw [e4, List.foldl_append, hu]
        rfl
      rw [e5]
      refine ⟨⟨_, rfl⟩, m4, ?_, k3.trans k4⟩
      rw [hu]
      exact word_ok ok3 hw
    · rintro σ H' ⟨⟨z, rfl⟩, ⟨d3, m3⟩, ok3, k3⟩
      rw [nums_len, List.take_length] at m3 ok3
      rw [et] at q
      generalize (words m).foldl Ks345.word v0 = u at m3 ok3 q
      refine ⟨_, rfl, x, d3, _, rfl, m3, lk_no nMix rfl (by decide +kernel), x, u, rfl, ⟨d3, m3⟩, ok3, fun H4 k4 => ?_⟩
      have kk : Kept [] H H4 := Kept.drop (p := x) (((k01.trans k2).any.trans k3).trans k4) nx
      exact ⟨_, 8, rfl, by decide, fun H5 r k5 nr er => q H5 r (kk.trans k5) (kk.free0 nr) er⟩
end
end LD

set_option maxRecDepth 100000
set_option maxHeartbeats 4000000
namespace LD
open PySem PySem.Spec PyProof.Rows L2
open PySem.W (Codec)
/-! ### cards -/
section
variable {P : Program} {w : World} {K : PySem.W.Frag} {mg : Str → Option Value} {base : Heap} {A : Ad}
def nCard : List Str := ["kind", "place", "number", "last", "serial"]
def cF (c : Ks345.Card) : List (Str × V) := [("kind", nI c.kind), ("place", nI c.place), ("number", nI c.number), ("last", nI c.last), ("serial", nI c.serial)]
def CardAt (A : Ad) (H : Hp) (p : Addr) (c : Ks345.Card) : Prop := ∃ dx, H p = some (.ins A.C_Card dx (cF c))
theorem cF_kind (c : Ks345.Card) : (cF c).lookup ("kind" : Str) = some (nI c.kind) := lk_ix 0 nCard rfl (by decide +kernel) rfl
theorem cF_place (c : Ks345.Card) : (cF c).lookup ("place" : Str) = some (nI c.place) := lk_ix 1 nCard rfl (by decide +kernel) rfl
theorem cF_number (c : Ks345.Card) : (cF c).lookup ("number" : Str) = some (nI c.number) := lk_ix 2 nCard rfl (by decide +kernel) rfl
theorem cF_last (c : Ks345.Card) : (cF c).lookup ("last" : Str) = some (nI c.last) := lk_ix 3 nCard rfl (by decide +kernel) rfl
theorem cF_serial (c : Ks345.Card) : (cF c).lookup ("serial" : Str) = some (nI c.serial) := lk_ix 4 nCard rfl (by decide +kernel) rfl
theorem ci0 (y0 : V) : putF "kind" y0 ([] : List (Str × V)) = ([("kind", y0)] : List (Str × V)) := put_end [] rfl (by decide +kernel)
theorem ci1 (y0 y1 : V) : putF "place" y1 ([("kind", y0)] : List (Str × V)) = ([("kind", y0), ("place", y1)] : List (Str × V)) := put_end ["kind"] rfl (by decide +kernel)
theorem ci2 (y0 y1 y2 : V) : putF "number" y2 ([("kind", y0), ("place", y1)] : List (Str × V)) = ([("kind", y0), ("place", y1), ("number", y2)] : List (Str × V)) := put_end ["kind", "place"] rfl (by decide +kernel)
theorem ci3 (y0 y1 y2 y3 : V) : putF "last" y3 ([("kind", y0), ("place", y1), ("number", y2)] : List (Str × V)) = ([("kind", y0), ("place", y1), ("number", y2), ("last", y3)] : List (Str × V)) := put_end ["kind", "place", "number"] rfl (by decide +kernel)
theorem ci4 (y0 y1 y2 y3 y4 : V) : putF "serial" y4 ([("kind", y0), ("place", y1), ("number", y2), ("last", y3)] : List (Str × V)) = ([("kind", y0), ("place", y1), ("number", y2), ("last", y3), ("serial", y4)] : List (Str × V)) := put_end ["kind", "place", "number", "last"] rfl (by decide +kernel)
theorem at_getD {b : List Nat} {i : Nat} (h : i < b.length) : atI (nums b) (i : Int) = some (nI (b.getD i 0)) := nums_at (by
  rw [List.getD_eq_getElem?_getD, List.getElem?_eq_getElem h]
  rfl)
def spCardInit (K : PySem.W.Frag) (A : Ad) : Sp := fun vs H Q _ => ∃ (p dx c : Addr) (b : List Nat), vs = [.ref p, .ref c] ∧ H p = some (.ins A.C_Card dx []) ∧ SqL K H c (nums b) ∧ 2 ≤ b.length ∧
  ∀ H', CardAt A H' p (Ks345.cardOf b) → Kept [p] H H' → Q .non H'
theorem ok_Card_init (T : Txt K mg A) : FnOk P w K mg base CX0 2 A.f_Card_init A.d_Card_init P_Card_init (spCardInit K A) := by
  have G : FnOk P w K mg base CX0 1 A.f_number_from A.d_number_from P_number_from (spNum K) := ok_number_from T
  refine T.F_Card_init.ok sc_Card_init (fun vs H Q E h => ?_) (fun cdv Ar outer s H vs Q E hr h => ⟨_,
    pss_cons (ps_fld (pv 0) (pe_ix ix_list (pv 1) pe_int (fun _ _ => rfl)) rfl)
    (pss_cons (ps_fld (pv 0) (pe_ix ix_list (pv 1) pe_int (fun _ _ => rfl)) rfl)
    (pss_cons (ps_fld (pv 0) (pe_call G hr rfl T.g_number_from T.F_number_from.kp T.B_number_from .nil pass0 (pa_cons (pe_slice sl_list (pv 1) (po_some pe_int) (po_some pe_int)) pa_nil)) rfl)
    (pss_cons (ps_fld (pv 0) (pe_call G hr rfl T.g_number_from T.F_number_from.kp T.B_number_from .nil pass0 (pa_cons (pe_slice sl_list (pv 1) (po_some pe_int) (po_some pe_int)) pa_nil)) rfl)
    (pss_one (ps_fld (pv 0) (pe_call G hr rfl T.g_number_from T.F_number_from.kp T.B_number_from .nil pass0 (pa_cons (pe_slice sl_list (pv 1) (po_some pe_int) (po_some pe_int)) pa_nil)) rfl))))), ?_⟩)
  · obtain ⟨p, dx, c, b, rfl, _⟩ := h
    rfl
  · obtain ⟨p, dx, c, b, rfl, hp, hc, h2, q⟩ := h
    have m : p ∈ [p] := List.mem_singleton.mpr rfl
    have nc : ∀ {H' : Hp}, Kept [p] H H' → SqL K H' c (nums b) := fun {H'} k => by
      rcases hc with (hc | ⟨o, hc⟩) | hc
      · exact .inl (.inl (k _ _ hc (no1 (ne_of hc hp (fun z => nomatch z)))))
      · exact .inl (.inr ⟨o, k _ _ hc (no1 (ne_of hc hp (fun z => nomatch z)))⟩)
      · exact .inr hc
    refine ⟨_, rfl, _, _, _, _, rfl, rfl, hc, at_getD (i := 0) (by omega), _, rfl, p, _, dx, _, rfl, hp, T.cl_Card, T.no_Card_kind, (by show 0 < 1000; decide), ?_⟩
    refine ⟨_, rfl, _, _, _, _, rfl, rfl, nc (Kept.put m), at_getD (i := 1) (by omega), _, rfl, p, _, dx, _, rfl, ins_put (ci0 _), T.cl_Card, T.no_Card_place, (by show 1 < 1000; decide), ?_⟩
    refine ⟨_, rfl, _, rfl, _, rfl, c, _, rfl, nc ((Kept.put m).trans (Kept.put m)), fun x hx => ⟨x, (b.drop 2).take 2, rfl, SqL.of (upd_same.trans (congrArg (fun z => some (HO.lst z)) (nums_cut (i := 2) (j := 4)))), ?_⟩⟩
    refine ⟨_, rfl, p, _, dx, _, rfl, (Kept.new (ex := []) hx).at0 (ins_put (ci1 _ _)), T.cl_Card, T.no_Card_number, (by show 2 < 1000; decide), ?_⟩
    refine ⟨_, rfl, _, rfl, _, rfl, c, _, rfl, nc ((((Kept.put m).trans (Kept.put m)).trans (Kept.new hx)).trans (Kept.put m)), fun y hy => ⟨y, (b.drop 4).take 2, rfl, SqL.of (upd_same.trans (congrArg (fun z => some (HO.lst z)) (nums_cut (i := 4) (j := 6)))), ?_⟩⟩
    refine ⟨_, rfl, p, _, dx, _, rfl, (Kept.new (ex := []) hy).at0 (ins_put (ci2 _ _ _)), T.cl_Card, T.no_Card_last, (by show 3 < 1000; decide), ?_⟩
    refine ⟨_, rfl, _, rfl, _, rfl, c, _, rfl, nc ((((((Kept.put m).trans (Kept.put m)).trans (Kept.new hx)).trans (Kept.put m)).trans (Kept.new hy)).trans (Kept.put m)), fun z hz => ⟨z, (b.drop 6).take 2, rfl, SqL.of (upd_same.trans (congrArg (fun z => some (HO.lst z)) (nums_cut (i := 6) (j := 8)))), ?_⟩⟩
    refine ⟨_, rfl, p, _, dx, _, rfl, (Kept.new (ex := []) hz).at0 (ins_put (ci3 _ _ _ _)), T.cl_Card, T.no_Card_serial, (by show 4 < 1000; decide), ?_⟩
    exact q _ ⟨dx, ins_put (ci4 _ _ _ _ _)⟩ ((((((((Kept.put m).trans (Kept.put m)).trans (Kept.new hx)).trans (Kept.put m)).trans (Kept.new hy)).trans (Kept.put m)).trans (Kept.new hz)).trans (Kept.put m))
def spForRoom : Sp := fun vs H Q _ => ∃ k : Nat, vs = [nI k] ∧ Q (.bl (forRoom k)) H
theorem int_dec (a b : Nat) : decide (((a : Nat) : Int) = ((b : Nat) : Int)) = decide (a = b) := decide_eq_decide.mpr Int.ofNat_inj
theorem le_dec (a b : Nat) : decide (((a : Nat) : Int) ≤ ((b : Nat) : Int)) = decide (a ≤ b) := decide_eq_decide.mpr Int.ofNat_le
theorem lt_dec (a b : Nat) : decide (((a : Nat) : Int) < ((b : Nat) : Int)) = decide (a < b) := decide_eq_decide.mpr Int.ofNat_lt
theorem ok_is_for_room (T : Txt K mg A) : FnOk P w K mg base CX0 1 A.f_is_for_room A.d_is_for_room P_is_for_room spForRoom := by
  refine T.F_is_for_room.ok sc_is_for_room (fun vs H Q E h => ?_) (fun cdv Ar outer s H vs Q E hr h => ⟨_,
    pss_one (ps_ret (pe_or (pe_cmp (pc_eqI (pv 0) (pe_const T.k_GUEST))) (pe_one (pe_cmp (pc_eqI (pv 0) (pe_const T.k_SHUTTING)))))), ?_⟩)
  · obtain ⟨k, rfl, _⟩ := h
    rfl
  · obtain ⟨k, rfl, q⟩ := h
    refine ⟨_, rfl, _, _, rfl, rfl, _, rfl, ?_⟩
    have e1 : decide ((k : Int) = 1) = decide (k = 1) := int_dec k 1
    have e3 : decide ((k : Int) = 3) = decide (k = 3) := int_dec k 3
    by_cases c : k = 1
    · refine if_true_of (e1.trans (decide_eq_true c)) ?_
      have : forRoom k = true := forRoom_iff.mpr (.inl c)
      rw [this] at q
      exact q
    · refine if_false_of (e1.trans (decide_eq_false c)) ⟨_, rfl, _, _, rfl, rfl, ?_⟩
      have : forRoom k = decide (k = 3) := by
        unfold forRoom
        rw [decide_eq_false c, Bool.false_or]
      rw [this, ← e3] at q
      exact q
def spHasPlace : Sp := fun vs H Q _ => ∃ k p : Nat, vs = [nI k, nI p] ∧ Q (.bl (hasPlace k p)) H
theorem ok_has_place (T : Txt K mg A) : FnOk P w K mg base CX0 2 A.f_has_place A.d_has_place P_has_place spHasPlace := by
  have G : FnOk P w K mg base CX0 1 A.f_is_for_room A.d_is_for_room P_is_for_room spForRoom := ok_is_for_room T
  refine T.F_has_place.ok sc_has_place (fun vs H Q E h => ?_) (fun cdv Ar outer s H vs Q E hr h => ⟨_,
    pss_cons (ps_if (pt_val (pe_call G hr rfl T.g_is_for_room T.F_is_for_room.kp T.B_is_for_room .nil pass0 (pa_cons (pv 0) pa_nil))) (pss_one (ps_ret (pe_cmp (pc_le (pv 1) (pe_const T.k_LAST_ROOM))))) pss_nil)
    (pss_cons (ps_if (pt_cmp (pc_eqI (pv 0) (pe_const T.k_STAFF))) (pss_one (ps_ret (pe_cmp (pc_ge (pv 1) pe_int)))) pss_nil)
    (pss_cons (ps_if (pt_cmp (pc_eqI (pv 0) (pe_const T.k_EMERGENCY))) (pss_one (ps_ret (pe_cmp (pc_eqI (pv 1) (pe_const T.k_EVERY_ZONE))))) pss_nil)
    (pss_one (ps_ret pe_bl)))), ?_⟩)
  · obtain ⟨k, p, rfl, _⟩ := h
    rfl
  · obtain ⟨k, p, rfl, q⟩ := h
    refine ⟨_, rfl, k, rfl, _, rfl, ?_⟩
    unfold hasPlace at q
    by_cases c : forRoom k = true
    · rw [if_pos c] at q
      refine if_true_of c ⟨_, rfl, _, _, rfl, rfl, ?_⟩
      rw [← le_dec] at q
      exact q
    · rw [if_neg c] at q
      refine if_false_of (Bool.eq_false_iff.mpr c) ⟨_, rfl, _, _, rfl, rfl, _, rfl, ?_⟩
      have e2 : decide ((k : Int) = 2) = decide (k = 2) := int_dec k 2
      have e4 : decide ((k : Int) = 4) = decide (k = 4) := int_dec k 4
      by_cases c2 : k = 2
      · rw [if_pos c2] at q
        refine if_true_of (e2.trans (decide_eq_true c2)) ⟨_, rfl, _, _, rfl, rfl, ?_⟩
        rw [← le_dec] at q
        exact q
      · rw [if_neg c2] at q
        refine if_false_of (e2.trans (decide_eq_false c2)) ⟨_, rfl, _, _, rfl, rfl, _, rfl, ?_⟩
        by_cases c4 : k = 4
        · rw [if_pos c4] at q
          refine if_true_of (e4.trans (decide_eq_true c4)) ⟨_, rfl, _, _, rfl, rfl, ?_⟩
          rw [← int_dec] at q
          exact q
        · rw [if_neg c4] at q
          exact if_false_of (e4.trans (decide_eq_false c4)) q
/-- two lists of numbers, compared -/
theorem eqvAll_nums : ∀ a b : List Nat, PyData.eqvAll (a.map fun n : Nat => PyData.int (n : Int)) (b.map fun n : Nat => PyData.int (n : Int)) = decide (a = b)
  | [], [] => by rw [List.map_nil, PyData.eqvAll]; rfl
  | [], _ :: _ => by rw [List.map_nil, List.map_cons, PyData.eqvAll]; rfl
  | _ :: _, [] => by rw [List.map_nil, List.map_cons, PyData.eqvAll]; rfl
  | x :: a, y :: b => by
    rw [List.map_cons, List.map_cons, PyData.eqvAll, PyData.eqv, eqvAll_nums a b, Bool.eq_iff_iff, Bool.and_eq_true, beq_iff_eq, decide_eq_true_iff, decide_eq_true_iff, List.cons.injEq, Int.ofNat_inj]
theorem dp_nums {H : Hp} {a : Addr} {l : List Nat} (h : SqL K H a (nums l)) : Dp K H (.ref a) (.list (l.map fun n : Nat => PyData.int (n : Int))) := by
  refine .lst h ?_
  clear h
  induction l with
  | nil => exact .nil
  | cons x l ih => exact .cons (.int _) ih
theorem shaped_nums (l : List Nat) : SeqAt.shaped (.list (l.map fun n : Nat => PyData.int (n : Int))) = true := by
  have e : (l.map fun n : Nat => PyData.int (n : Int)) = (l.map fun n : Nat => (n : Int)).map PyData.int := by rw [List.map_map]; rfl
  rw [e]
  exact PySem.W.shaped_ints _
def spIsCard (K : PySem.W.Frag) : Sp := fun vs H Q _ => ∃ (c k : Addr) (b key : List Nat), vs = [.ref c, .ref k] ∧ SqL K H c (nums b) ∧ SqL K H k (nums key) ∧ B8 b ∧ key.length = 16 ∧ B8 key ∧ ∀ H', Kept [] H H' → Q (.bl (isCard key b)) H'
theorem ok_is_card (T : Txt K mg A) : FnOk P w K mg base CX0 6 A.f_is_card A.d_is_card P_is_card (spIsCard K) := by
  have GP : FnOk P w K mg base CX0 2 A.f_has_place A.d_has_place P_has_place spHasPlace := ok_has_place T
  have GT : FnOk P w K mg base CX0 5 A.f_tag_of A.d_tag_of P_tag_of (spTag K) := ok_tag_of T
  refine T.F_is_card.ok sc_is_card (fun vs H Q E h => ?_) (fun cdv Ar outer s H vs Q E hr h => ⟨_,
    pss_cons (ps_if (pt_cmp (pc_neI (pe_callB call_len_seq (by rfl) T.b_len PySem.boot_len (pa_cons (pv 0) pa_nil)) (pe_const T.k_CARD_LENGTH))) (pss_one (ps_ret pe_bl)) pss_nil)
    (pss_cons (ps_if (pt_not (pt_val (pe_call GP (hr.mono (by decide)) rfl T.g_has_place T.F_has_place.kp T.B_has_place .nil pass0 (pa_cons (pe_ix ix_list (pv 0) pe_int (fun _ _ => rfl)) (pa_cons (pe_ix ix_list (pv 0) pe_int (fun _ _ => rfl)) pa_nil))))) (pss_one (ps_ret pe_bl)) pss_nil)
    (pss_one (ps_ret (pe_cmpR (op_eqD hr.units) (pe_slice sl_list (pv 0) (po_some pe_int) po_none) (pe_call GT hr rfl T.g_tag_of T.F_tag_of.kp T.B_tag_of .nil pass0 (pa_cons (pe_slice sl_list (pv 0) po_none (po_some pe_int)) (pa_cons (pv 1) pa_nil))) (nomark _))))), ?_⟩)
  · obtain ⟨c, k, b, key, rfl, _⟩ := h
    rfl
  · obtain ⟨c, k, b, key, rfl, hc, hk, b8, k16, k8, q⟩ := h
    refine ⟨_, rfl, c, _, rfl, .inl hc, _, _, rfl, rfl, _, rfl, ?_⟩
    unfold isCard at q
    have e16 : decide (((nums b).length : Int) = 16) = decide (b.length = 16) := by
      rw [nums_len]
      exact int_dec b.length 16
    by_cases c1 : b.length = 16
    · rw [if_pos c1] at q
      refine if_false_of (congrArg not (e16.trans (decide_eq_true c1))) ?_
      refine ⟨_, rfl, _, _, _, _, rfl, rfl, hc, at_getD (i := 0) (by omega), _, rfl, _, _, _, _, rfl, rfl, hc, at_getD (i := 1) (by omega), _, _, rfl, _, rfl, ?_⟩
      by_cases c2 : hasPlace (b.getD 0 0) (b.getD 1 0) = true
      · rw [if_pos c2] at q
        refine if_false_of (by rw [c2]; rfl) ?_
        refine ⟨_, rfl, _, rfl, c, _, rfl, hc, fun x hx => ?_⟩
        have k1 : Kept [] H (upd H x (.lst (cutV (nums b) (some 8) none))) := Kept.new hx
        have e1 : upd H x (.lst (cutV (nums b) (some 8) none)) x = some (.lst (nums (b.drop 8))) := upd_same.trans (congrArg (fun z => some (HO.lst z)) (nums_from (i := 8)))
        generalize upd H x (.lst (cutV (nums b) (some 8) none)) = H1 at k1 e1
        refine ⟨_, rfl, _, rfl, c, _, rfl, k1.seq0 hc, fun y hy => ?_⟩
        have k2 : Kept [] H1 (upd H1 y (.lst (cutV (nums b) none (some 8)))) := Kept.new hy
        have e2 : upd H1 y (.lst (cutV (nums b) none (some 8))) y = some (.lst (nums (b.take 8))) := upd_same.trans (congrArg (fun z => some (HO.lst z)) (nums_upto (j := 8)))
        generalize upd H1 y (.lst (cutV (nums b) none (some 8))) = H2 at k2 e2
        refine ⟨_, rfl, y, k, b.take 8, key, rfl, SqL.of e2, (k1.trans k2).seq0 hk, by rw [List.length_take, c1]; rfl, b8.take 8, k16, k8, fun H3 t k3 nt et => ?_⟩
        refine ⟨_, _, dp_nums ((k2.trans k3).seq0 (SqL.of e1)), dp_nums (SqL.of et), shaped_nums _, shaped_nums _, ?_⟩
        rw [PyData.eqv, eqvAll_nums]
        exact q H3 ((k1.trans k2).trans k3)
      · rw [if_neg c2] at q
        refine if_true_of (by rw [Bool.eq_false_iff.mpr c2]; rfl) ?_
        exact q H (Kept.refl _ _)
    · rw [if_neg c1] at q
      refine if_true_of (congrArg not (e16.trans (decide_eq_false c1))) ?_
      exact q H (Kept.refl _ _)
end
end LD

set_option maxRecDepth 100000
set_option maxHeartbeats 4000000
namespace LD
open PySem PySem.Spec PyProof.Rows L2
open PySem.W (Codec)
/-! ### the door -/
section
open Ks346 (Abs)
variable {P : Program} {w : World} {K : PySem.W.Frag} {mg : Str → Option Value} {base : Heap} {A : Ad}
def nDoor : List Str := ["room", "zone", "key", "day", "learned_number", "learned_round", "bolted", "book"]
def dF (k b : Addr) (a : Abs) : List (Str × V) := [("room", nI a.room), ("zone", nI a.zone), ("key", .ref k), ("day", nI a.day), ("learned_number", nI a.number), ("learned_round", nI a.epoch), ("bolted", .bl a.bolted), ("book", .ref b)]
theorem dF_room (k b : Addr) (a : Abs) : (dF k b a).lookup ("room" : Str) = some (nI a.room) := lk_ix 0 nDoor rfl (by decide +kernel) rfl
theorem dF_zone (k b : Addr) (a : Abs) : (dF k b a).lookup ("zone" : Str) = some (nI a.zone) := lk_ix 1 nDoor rfl (by decide +kernel) rfl
theorem dF_key (k b : Addr) (a : Abs) : (dF k b a).lookup ("key" : Str) = some (.ref k) := lk_ix 2 nDoor rfl (by decide +kernel) rfl
theorem dF_day (k b : Addr) (a : Abs) : (dF k b a).lookup ("day" : Str) = some (nI a.day) := lk_ix 3 nDoor rfl (by decide +kernel) rfl
theorem dF_number (k b : Addr) (a : Abs) : (dF k b a).lookup ("learned_number" : Str) = some (nI a.number) := lk_ix 4 nDoor rfl (by decide +kernel) rfl
theorem dF_epoch (k b : Addr) (a : Abs) : (dF k b a).lookup ("learned_round" : Str) = some (nI a.epoch) := lk_ix 5 nDoor rfl (by decide +kernel) rfl
theorem dF_bolted (k b : Addr) (a : Abs) : (dF k b a).lookup ("bolted" : Str) = some (.bl a.bolted) := lk_ix 6 nDoor rfl (by decide +kernel) rfl
theorem dF_book (k b : Addr) (a : Abs) : (dF k b a).lookup ("book" : Str) = some (.ref b) := lk_ix 7 nDoor rfl (by decide +kernel) rfl
theorem dF_pday (k b : Addr) (a : Abs) (x : Nat) : putF "day" (nI x) (dF k b a) = dF k b { a with day := x } := (put_ix 3 nDoor rfl (by decide +kernel)).trans rfl
theorem dF_pnumber (k b : Addr) (a : Abs) (x : Nat) : putF "learned_number" (nI x) (dF k b a) = dF k b { a with number := x } := (put_ix 4 nDoor rfl (by decide +kernel)).trans rfl
theorem dF_pepoch (k b : Addr) (a : Abs) (x : Nat) : putF "learned_round" (nI x) (dF k b a) = dF k b { a with epoch := x } := (put_ix 5 nDoor rfl (by decide +kernel)).trans rfl
theorem dF_pbolted (k b : Addr) (a : Abs) (x : Bool) : putF "bolted" (.bl x) (dF k b a) = dF k b { a with bolted := x } := (put_ix 6 nDoor rfl (by decide +kernel)).trans rfl
/-- the door's own object -/
def DObj (A : Ad) (H : Hp) (d k b : Addr) (a : Abs) : Prop := ∃ dx, H d = some (.ins A.C_Door dx (dF k b a))
def entV (e : Ks346.Entry) : List V := [nI e.kind, nI e.number, nI e.serial, nI e.day]
/-- a book's tuples, the oldest first -/
def Ents (H : Hp) (es : List V) (l : List Ks346.Entry) : Prop := es.length = l.length ∧ ∀ (i : Nat) (e : Ks346.Entry), l[i]? = some e → ∃ t, es[i]? = some (.ref t) ∧ H t = some (.tup (entV e))
theorem Ents.kept {H H' : Hp} {es : List V} {l : List Ks346.Entry} (h : Ents H es l) (k : ∀ t xs, H t = some (.tup xs) → H' t = some (.tup xs)) : Ents H' es l :=
  ⟨h.1, fun i e q => by
    obtain ⟨t, h1, h2⟩ := h.2 i e q
    exact ⟨t, h1, k t _ h2⟩⟩
theorem Ents.snoc {H : Hp} {es : List V} {l : List Ks346.Entry} (h : Ents H es l) {t : Addr} {e : Ks346.Entry} (ht : H t = some (.tup (entV e))) : Ents H (es ++ [.ref t]) (l ++ [e]) := by
  refine ⟨by rw [List.length_append, List.length_append, h.1]; rfl, fun i x q => ?_⟩
  by_cases c : i < l.length
  · rw [List.getElem?_append_left c] at q
    rw [List.getElem?_append_left (by rw [h.1]; exact c)]
    exact h.2 i x q
  · rw [List.getElem?_append_right (by omega)] at q
    rw [List.getElem?_append_right (by rw [h.1]; omega), h.1]
    cases e0 : i - l.length with
    | zero =>
      rw [e0] at q
      have : e = x := Option.some.inj q
      subst this
      exact ⟨t, rfl, ht⟩
    | succ n =>
      rw [e0] at q
      cases q
theorem Ents.tail {H : Hp} {es : List V} {l : List Ks346.Entry} (h : Ents H es l) : Ents H (es.eraseIdx 0) (l.eraseIdx 0) := by
  rw [List.eraseIdx_zero, List.eraseIdx_zero]
  refine ⟨by rw [List.length_tail, List.length_tail, h.1], fun i e q => ?_⟩
  rw [List.getElem?_tail] at q ⊢
  exact h.2 (i + 1) e q
/-- the door whole: its object, its key's list, its book's list and tuples -/
def DoorAt (A : Ad) (H : Hp) (d k b : Addr) (a : Abs) : Prop := ∃ es, DObj A H d k b a ∧ H k = some (.lst (nums a.key)) ∧ k ≠ b ∧ H b = some (.lst es) ∧ Ents H es a.book.reverse
/-- what is no door's object and no book stands: the door stands -/
theorem DoorAt.kept {H H' : Hp} {ex : List Addr} {d q b : Addr} {a : Abs} (h : DoorAt A H d q b a) (k : Kept ex H H') (hd : d ∉ ex) (hq : q ∉ ex) (hb : b ∉ ex) (ht : ∀ x xs, x ∈ ex → H x ≠ some (.tup xs)) : DoorAt A H' d q b a := by
  obtain ⟨es, ⟨dx, h1⟩, h2, h3, h4, h5⟩ := h
  exact ⟨es, ⟨dx, k _ _ h1 hd⟩, k _ _ h2 hq, h3, k _ _ h4 hb, h5.kept fun t xs e => k _ _ e fun z => ht _ _ z e⟩
theorem DoorAt.kept0 {H H' : Hp} {d q b : Addr} {a : Abs} (h : DoorAt A H d q b a) (k : Kept [] H H') : DoorAt A H' d q b a :=
  h.kept k (fun q => nomatch q) (fun q => nomatch q) (fun q => nomatch q) (fun _ _ q => nomatch q)
/-- another of its numbers is stored -/
theorem DoorAt.put {H : Hp} {d b k dx : Addr} {a a' : Abs} {es : List V} {f : Str} {y : V} (e : H d = some (.ins A.C_Door dx (dF k b a))) (h2 : H k = some (.lst (nums a.key))) (h3 : k ≠ b) (h4 : H b = some (.lst es)) (h5 : Ents H es a.book.reverse)
    (hp : putF f y (dF k b a) = dF k b a') (hk : a'.key = a.key) (hb : a'.book = a.book) : DoorAt A (upd H d (.ins A.C_Door dx (putF f y (dF k b a)))) d k b a' := by
  have nl : ∀ {x : Addr} {xs : List V}, H x = some (.lst xs) → x ≠ d := fun q => ne_of q e fun z => nomatch z
  refine ⟨es, ⟨dx, ins_put hp⟩, ?_, h3, ?_, ?_⟩
  · rw [upd_ne (nl h2), hk]
    exact h2
  · rw [upd_ne (nl h4)]
    exact h4
  · rw [hb]
    exact h5.kept fun t xs q => by
      rw [upd_ne (ne_of q e fun z => nomatch z)]
      exact q
def mayBegin (key : List Nat) (r z : Nat) : Bool := if key.length = 16 then (if r ≤ 63 then decide (z ≤ 7) else false) else false
def spMay (K : PySem.W.Frag) : Sp := fun vs H Q _ => ∃ (r z : Nat) (k : Addr) (key : List Nat), vs = [nI r, nI z, .ref k] ∧ SqL K H k (nums key) ∧ Q (.bl (mayBegin key r z)) H
theorem ok_may_begin (T : Txt K mg A) : FnOk P w K mg base CX0 1 A.f_may_begin A.d_may_begin P_may_begin (spMay K) := by
  refine T.F_may_begin.ok sc_may_begin (fun vs H Q E h => ?_) (fun cdv Ar outer s H vs Q E hr h => ⟨_,
    pss_one (ps_ret (pe_and (pe_cmp (pc_eqI (pe_callB call_len_seq (by rfl) T.b_len PySem.boot_len (pa_cons (pv 2) pa_nil)) (pe_const T.k_KEY_LENGTH)))
      (pe_and (pe_cmp (pc_le (pv 0) (pe_const T.k_LAST_ROOM))) (pe_one (pe_cmp (pc_le (pv 1) (pe_const T.k_LAST_ZONE))))))), ?_⟩)
  · obtain ⟨r, z, k, key, rfl, _⟩ := h
    rfl
  · obtain ⟨r, z, k, key, rfl, hk, q⟩ := h
    refine ⟨_, rfl, k, _, rfl, .inl hk, _, _, rfl, rfl, _, rfl, ?_⟩
    unfold mayBegin at q
    have e16 : decide (((nums key).length : Int) = 16) = decide (key.length = 16) := by
      rw [nums_len]
      exact int_dec key.length 16
    have er : decide ((r : Int) ≤ 63) = decide (r ≤ 63) := le_dec r 63
    have ez : decide ((z : Int) ≤ 7) = decide (z ≤ 7) := le_dec z 7
    by_cases c1 : key.length = 16
    · rw [if_pos c1] at q
      refine if_true_of (e16.trans (decide_eq_true c1)) ⟨_, rfl, _, _, rfl, rfl, _, rfl, ?_⟩
      by_cases c2 : r ≤ 63
      · rw [if_pos c2, ← ez] at q
        exact if_true_of (er.trans (decide_eq_true c2)) ⟨_, rfl, _, _, rfl, rfl, q⟩
      · rw [if_neg c2] at q
        exact if_false_of (er.trans (decide_eq_false c2)) q
    · rw [if_neg c1] at q
      exact if_false_of (e16.trans (decide_eq_false c1)) q
def newDoor (key : List Nat) (r z : Nat) : Abs := { key := key, room := r, zone := z }
def spDoorInit (A : Ad) : Sp := fun vs H Q _ => ∃ (p dx k : Addr) (key : List Nat) (r z : Nat), vs = [.ref p, nI r, nI z, .ref k] ∧ H p = some (.ins A.C_Door dx []) ∧ H k = some (.lst (nums key)) ∧
  ∀ H' b, DoorAt A H' p k b (newDoor key r z) → H b = none → Kept [p] H H' → Q .non H'
theorem di0 (y0 : V) : putF "room" y0 ([] : List (Str × V)) = ([("room", y0)] : List (Str × V)) := put_end [] rfl (by decide +kernel)
theorem di1 (y0 y1 : V) : putF "zone" y1 ([("room", y0)] : List (Str × V)) = ([("room", y0), ("zone", y1)] : List (Str × V)) := put_end ["room"] rfl (by decide +kernel)
theorem di2 (y0 y1 y2 : V) : putF "key" y2 ([("room", y0), ("zone", y1)] : List (Str × V)) = ([("room", y0), ("zone", y1), ("key", y2)] : List (Str × V)) := put_end ["room", "zone"] rfl (by decide +kernel)
theorem di3 (y0 y1 y2 y3 : V) : putF "day" y3 ([("room", y0), ("zone", y1), ("key", y2)] : List (Str × V)) = ([("room", y0), ("zone", y1), ("key", y2), ("day", y3)] : List (Str × V)) := put_end ["room", "zone", "key"] rfl (by decide +kernel)
theorem di4 (y0 y1 y2 y3 y4 : V) : putF "learned_number" y4 ([("room", y0), ("zone", y1), ("key", y2), ("day", y3)] : List (Str × V)) = ([("room", y0), ("zone", y1), ("key", y2), ("day", y3), ("learned_number", y4)] : List (Str × V)) := put_end ["room", "zone", "key", "day"] rfl (by decide +kernel)
theorem di5 (y0 y1 y2 y3 y4 y5 : V) : putF "learned_round" y5 ([("room", y0), ("zone", y1), ("key", y2), ("day", y3), ("learned_number", y4)] : List (Str × V)) = ([("room", y0), ("zone", y1), ("key", y2), ("day", y3), ("learned_number", y4), ("learned_round", y5)] : List (Str × V)) := put_end ["room", "zone", "key", "day", "learned_number"] rfl (by decide +kernel)
theorem di6 (y0 y1 y2 y3 y4 y5 y6 : V) : putF "bolted" y6 ([("room", y0), ("zone", y1), ("key", y2), ("day", y3), ("learned_number", y4), ("learned_round", y5)] : List (Str × V)) = ([("room", y0), ("zone", y1), ("key", y2), ("day", y3), ("learned_number", y4), ("learned_round", y5), ("bolted", y6)] : List (Str × V)) := put_end ["room", "zone", "key", "day", "learned_number", "learned_round"] rfl (by decide +kernel)
theorem di7 (y0 y1 y2 y3 y4 y5 y6 y7 : V) : putF "book" y7 ([("room", y0), ("zone", y1), ("key", y2), ("day", y3), ("learned_number", y4), ("learned_round", y5), ("bolted", y6)] : List (Str × V)) = ([("room", y0), ("zone", y1), ("key", y2), ("day", y3), ("learned_number", y4), ("learned_round", y5), ("bolted", y6), ("book", y7)] : List (Str × V)) := put_end ["room", "zone", "key", "day", "learned_number", "learned_round", "bolted"] rfl (by decide +kernel)
theorem ok_Door_init (T : Txt K mg A) : FnOk P w K mg base CX0 1 A.f_Door_init A.d_Door_init P_Door_init (spDoorInit A) := by
  refine T.F_Door_init.ok sc_Door_init (fun vs H Q E h => ?_) (fun cdv Ar outer s H vs Q E hr h => ⟨_,
    pss_cons (ps_fld (pv 0) (pv 1) rfl) (pss_cons (ps_fld (pv 0) (pv 2) rfl) (pss_cons (ps_fld (pv 0) (pv 3) rfl) (pss_cons (ps_fld (pv 0) pe_int rfl)
    (pss_cons (ps_fld (pv 0) pe_int rfl) (pss_cons (ps_fld (pv 0) pe_int rfl) (pss_cons (ps_fld (pv 0) pe_bl rfl) (pss_one (ps_fld (pv 0) (pe_lst pa_nil) rfl)))))))), ?_⟩)
  · obtain ⟨p, dx, k, key, r, z, rfl, _⟩ := h
    rfl
  · obtain ⟨p, dx, k, key, r, z, rfl, hp, hk, q⟩ := h
    have m : p ∈ [p] := List.mem_singleton.mpr rfl
    refine ⟨_, rfl, _, rfl, p, _, dx, _, rfl, hp, T.cl_Door, T.no_Door_room, (by show 0 < 1000; decide), ?_⟩
    refine ⟨_, rfl, _, rfl, p, _, dx, _, rfl, ins_put (di0 _), T.cl_Door, T.no_Door_zone, (by show 1 < 1000; decide), ?_⟩
    refine ⟨_, rfl, _, rfl, p, _, dx, _, rfl, ins_put (di1 _ _), T.cl_Door, T.no_Door_key, (by show 2 < 1000; decide), ?_⟩
    refine ⟨_, rfl, p, _, dx, _, rfl, ins_put (di2 _ _ _), T.cl_Door, T.no_Door_day, (by show 3 < 1000; decide), ?_⟩
    refine ⟨_, rfl, p, _, dx, _, rfl, ins_put (di3 _ _ _ _), T.cl_Door, T.no_Door_learned_number, (by show 4 < 1000; decide), ?_⟩
    refine ⟨_, rfl, p, _, dx, _, rfl, ins_put (di4 _ _ _ _ _), T.cl_Door, T.no_Door_learned_round, (by show 5 < 1000; decide), ?_⟩
    refine ⟨_, rfl, p, _, dx, _, rfl, ins_put (di5 _ _ _ _ _ _), T.cl_Door, T.no_Door_bolted, (by show 6 < 1000; decide), ?_⟩
    refine ⟨(by show 0 ≤ sizeLine; decide), fun b hb => ?_⟩
    refine ⟨_, rfl, p, _, dx, _, rfl, (Kept.new (ex := []) hb).at0 (ins_put (di6 _ _ _ _ _ _ _)), T.cl_Door, T.no_Door_book, (by show 7 < 1000; decide), ?_⟩
    have kk := fun o => ((((((((Kept.put m).trans (Kept.put m)).trans (Kept.put m)).trans (Kept.put m)).trans (Kept.put m)).trans (Kept.put m)).trans (Kept.put m)).trans (Kept.new (o := .lst []) hb)).trans (Kept.put (o := o) m)
    have nbp : b ≠ p := fun z => by
      subst z
      rw [upd_same] at hb
      cases hb
    have hbH : H b = none := Kept.free (((((((Kept.put m).trans (Kept.put m)).trans (Kept.put m)).trans (Kept.put m)).trans (Kept.put m)).trans (Kept.put m)).trans (Kept.put m)) (no1 nbp) hb
    refine q _ b ⟨[], ⟨dx, ins_put (di7 _ _ _ _ _ _ _ _)⟩, kk _ _ _ hk (no1 (ne_of hk hp fun z => nomatch z)), fun z => ?_, ?_, rfl, fun i e z => ?_⟩ hbH (kk _)
    · subst z
      rw [hk] at hbH
      cases hbH
    · rw [upd_ne nbp]
      exact upd_same
    · cases i <;> cases z
end
end LD

set_option maxRecDepth 100000
set_option maxHeartbeats 4000000
namespace LD
open PySem PySem.Spec PyProof.Rows L2
open PySem.W (Codec)
section
open Ks346 (Abs)
variable {P : Program} {w : World} {K : PySem.W.Frag} {mg : Str → Option Value} {base : Heap} {A : Ad}
def moveDay (a : Abs) (n : Nat) : Abs × Int := if n < a.day ∨ 65535 < n then (a, -22) else ({ a with day := n }, 0)
def spMoveDay (A : Ad) : Sp := fun vs H Q _ => ∃ (d k b : Addr) (a : Abs) (n : Nat), vs = [.ref d, nI n] ∧ DoorAt A H d k b a ∧
  ∀ H', DoorAt A H' d k b (moveDay a n).1 → Kept [d] H H' → Q (.int (moveDay a n).2) H'
theorem ok_move_day (T : Txt K mg A) : FnOk P w K mg base CX0 1 A.f_Door_move_day A.d_Door_move_day P_Door_move_day (spMoveDay A) := by
  refine T.F_Door_move_day.ok sc_Door_move_day (fun vs H Q E h => ?_) (fun cdv Ar outer s H vs Q E hr h => ⟨_,
    pss_cons (ps_if (PW.pt (pw_or (pt_cmp (pc_lt (pv 1) (pe_fld (pv 0) rfl))) (pw_or1 (pt_cmp (pc_gt (pv 1) (pe_const T.k_LAST_DAY)))))) (pss_one (ps_ret (pe_const T.k_WRONG_VALUE))) pss_nil)
    (pss_cons (ps_fld (pv 0) (pv 1) rfl) (pss_one (ps_ret (pe_const T.k_DONE)))), ?_⟩)
  · obtain ⟨d, k, b, a, n, rfl, _⟩ := h
    rfl
  · obtain ⟨d, k, b, a, n, rfl, hd, q⟩ := h
    have hd' := hd
    obtain ⟨es, ⟨dx, e1⟩, e2, e3, e4, e5⟩ := hd'
    refine ⟨_, rfl, _, rfl, _, _, dx, _, _, rfl, e1, T.cl_Door, T.no_Door_day, dF_day _ _ _, _, _, rfl, rfl, _, rfl, ?_⟩
    have c1 : decide ((n : Int) < (a.day : Int)) = decide (n < a.day) := lt_dec n a.day
    have c2 : decide ((65535 : Int) < (n : Int)) = decide (65535 < n) := lt_dec 65535 n
    unfold moveDay at q
    by_cases h1 : n < a.day
    · rw [if_pos (.inl h1)] at q
      exact if_true_of (c1.trans (decide_eq_true h1)) (q H hd (Kept.refl _ _))
    · refine if_false_of (c1.trans (decide_eq_false h1)) ⟨_, rfl, _, _, rfl, rfl, _, rfl, ?_⟩
      by_cases h2 : 65535 < n
      · rw [if_pos (.inr h2)] at q
        exact if_true_of (c2.trans (decide_eq_true h2)) (q H hd (Kept.refl _ _))
      · rw [if_neg (by omega)] at q
        refine if_false_of (c2.trans (decide_eq_false h2)) ⟨_, rfl, _, rfl, d, _, dx, _, rfl, e1, T.cl_Door, T.no_Door_day, (by show 8 < 1000; decide), ?_⟩
        exact q _ (DoorAt.put e1 e2 e3 e4 e5 (dF_pday _ _ _ _) rfl rfl) (Kept.put (List.mem_singleton.mpr rfl))
def spIsMeant (A : Ad) : Sp := fun vs H Q _ => ∃ (d c k b : Addr) (a : Abs) (x : Ks345.Card), vs = [.ref d, .ref c] ∧ DObj A H d k b a ∧ CardAt A H c x ∧ Q (.bl (isMeant a x)) H
theorem ok_is_meant (T : Txt K mg A) : FnOk P w K mg base CX0 2 A.f_Door_is_meant A.d_Door_is_meant P_Door_is_meant (spIsMeant A) := by
  have G : FnOk P w K mg base CX0 1 A.f_is_for_room A.d_is_for_room P_is_for_room spForRoom := ok_is_for_room T
  refine T.F_Door_is_meant.ok sc_Door_is_meant (fun vs H Q E h => ?_) (fun cdv Ar outer s H vs Q E hr h => ⟨_,
    pss_cons (ps_if (pt_val (pe_call G hr rfl T.g_is_for_room T.F_is_for_room.kp T.B_is_for_room .nil pass0 (pa_cons (pe_fld (pv 1) rfl) pa_nil))) (pss_one (ps_ret (pe_cmp (pc_eqI (pe_fld (pv 1) rfl) (pe_fld (pv 0) rfl))))) pss_nil)
    (pss_cons (ps_if (pt_cmp (pc_eqI (pe_fld (pv 1) rfl) (pe_const T.k_STAFF))) (pss_one (ps_ret (pe_cmp (pc_eqI (pe_op op_and (pe_op op_shr (pe_fld (pv 1) rfl) (pe_fld (pv 0) rfl)) pe_int) pe_int)))) pss_nil)
    (pss_one (ps_ret pe_bl))), ?_⟩)
  · obtain ⟨d, c, k, b, a, x, rfl, _⟩ := h
    rfl
  · obtain ⟨d, c, k, b, a, x, rfl, ⟨dx, e1⟩, ⟨dc, e2⟩, q⟩ := h
    refine ⟨_, rfl, _, _, dc, _, _, rfl, e2, T.cl_Card, T.no_Card_kind, cF_kind _, x.kind, rfl, _, rfl, ?_⟩
    unfold isMeant at q
    by_cases h1 : forRoom x.kind = true
    · rw [if_pos h1, ← int_dec] at q
      exact if_true_of h1 ⟨_, rfl, _, _, dc, _, _, rfl, e2, T.cl_Card, T.no_Card_place, cF_place _, _, rfl, _, _, dx, _, _, rfl, e1, T.cl_Door, T.no_Door_room, dF_room _ _ _, _, _, rfl, rfl, q⟩
    · rw [if_neg h1] at q
      refine if_false_of (Bool.eq_false_iff.mpr h1) ⟨_, rfl, _, _, dc, _, _, rfl, e2, T.cl_Card, T.no_Card_kind, cF_kind _, _, _, rfl, rfl, _, rfl, ?_⟩
      have c2 : decide ((x.kind : Int) = 2) = decide (x.kind = 2) := int_dec x.kind 2
      by_cases h2 : x.kind = 2
      · rw [if_pos h2, ← int_dec] at q
        refine if_true_of (c2.trans (decide_eq_true h2)) ⟨_, rfl, _, _, dc, _, _, rfl, e2, T.cl_Card, T.no_Card_place, cF_place _, _, rfl, _, _, dx, _, _, rfl, e1, T.cl_Door, T.no_Door_zone, dF_zone _ _ _, _, _, rfl, rfl, Int.natCast_nonneg _, _, _, rfl, rfl, _, _, rfl, rfl, ?_⟩
        have ev : Builtin.bitAnd ((x.place : Int) / 2 ^ ((a.zone : Int)).toNat) 1 = ((x.place / 2 ^ a.zone % 2 : Nat) : Int) := by
          rw [shr_nat, show (1 : Int) = ((1 : Nat) : Int) from rfl, bAnd, Nat.and_one_is_mod]
        show Q (.bl (decide (Builtin.bitAnd ((x.place : Int) / 2 ^ ((a.zone : Int)).toNat) 1 = 1))) H
        rw [ev]
        exact q
      · rw [if_neg h2] at q
        exact if_false_of (c2.trans (decide_eq_false h2)) q
def spNewest (A : Ad) : Sp := fun vs H Q _ => ∃ (d c k b : Addr) (a : Abs) (x : Ks345.Card), vs = [.ref d, .ref c] ∧ DObj A H d k b a ∧ CardAt A H c x ∧ Q (nI (newest a x)) H
theorem ok_newest (T : Txt K mg A) : FnOk P w K mg base CX0 2 A.f_Door_newest A.d_Door_newest P_Door_newest (spNewest A) := by
  have G : FnOk P w K mg base CX0 1 A.f_is_for_room A.d_is_for_room P_is_for_room spForRoom := ok_is_for_room T
  refine T.F_Door_newest.ok sc_Door_newest (fun vs H Q E h => ?_) (fun cdv Ar outer s H vs Q E hr h => ⟨_,
    pss_cons (ps_if (pt_val (pe_call G hr rfl T.g_is_for_room T.F_is_for_room.kp T.B_is_for_room .nil pass0 (pa_cons (pe_fld (pv 1) rfl) pa_nil))) (pss_one (ps_ret (pe_fld (pv 0) rfl))) pss_nil)
    (pss_one (ps_ret (pe_fld (pv 0) rfl))), ?_⟩)
  · obtain ⟨d, c, k, b, a, x, rfl, _⟩ := h
    rfl
  · obtain ⟨d, c, k, b, a, x, rfl, ⟨dx, e1⟩, ⟨dc, e2⟩, q⟩ := h
    refine ⟨_, rfl, _, _, dc, _, _, rfl, e2, T.cl_Card, T.no_Card_kind, cF_kind _, x.kind, rfl, _, rfl, ?_⟩
    unfold newest at q
    by_cases h1 : forRoom x.kind = true
    · rw [if_pos h1] at q
      exact if_true_of h1 ⟨_, rfl, _, _, dx, _, _, rfl, e1, T.cl_Door, T.no_Door_learned_number, dF_number _ _ _, q⟩
    · rw [if_neg h1] at q
      exact if_false_of (Bool.eq_false_iff.mpr h1) ⟨_, rfl, _, _, dx, _, _, rfl, e1, T.cl_Door, T.no_Door_learned_round, dF_epoch _ _ _, q⟩
def spJudge (A : Ad) : Sp := fun vs H Q _ => ∃ (d c k b : Addr) (a : Abs) (x : Ks345.Card), vs = [.ref d, .ref c] ∧ DObj A H d k b a ∧ CardAt A H c x ∧ Q (.int (judge a x)) H
theorem ok_judge (T : Txt K mg A) : FnOk P w K mg base CX0 3 A.f_Door_judge A.d_Door_judge P_Door_judge (spJudge A) := by
  have GM : FnOk P w K mg base CX0 2 A.f_Door_is_meant A.d_Door_is_meant P_Door_is_meant (spIsMeant A) := ok_is_meant T
  have GN : FnOk P w K mg base CX0 2 A.f_Door_newest A.d_Door_newest P_Door_newest (spNewest A) := ok_newest T
  refine T.F_Door_judge.ok sc_Door_judge (fun vs H Q E h => ?_) (fun cdv Ar outer s H vs Q E hr h => ⟨_,
    pss_cons (ps_if (pt_not (pt_val (pe_meth (pv 0) T.cl_Door T.M_Door_is_meant GM hr T.B_Door_is_meant .nil pass0 (pa_cons (pv 1) pa_nil)))) (pss_one (ps_ret (pe_const T.k_ELSEWHERE))) pss_nil)
    (pss_cons (ps_if (pt_cmp (pc_lt (pe_fld (pv 1) rfl) (pe_fld (pv 0) rfl))) (pss_one (ps_ret (pe_const T.k_OVER))) pss_nil)
    (pss_cons (ps_if (pt_cmp (pc_lt (pe_fld (pv 1) rfl) (pe_meth (pv 0) T.cl_Door T.M_Door_newest GN hr T.B_Door_newest .nil pass0 (pa_cons (pv 1) pa_nil)))) (pss_one (ps_ret (pe_const T.k_OLDER))) pss_nil)
    (pss_cons (ps_if (PW.pt (pw_and (pt_val (pe_fld (pv 0) rfl)) (pw_and1 (PW.pt (pw_or (pt_cmp (pc_eqI (pe_fld (pv 1) rfl) (pe_const T.k_GUEST))) (pw_or1 (pt_cmp (pc_eqI (pe_fld (pv 1) rfl) (pe_const T.k_STAFF))))))))) (pss_one (ps_ret (pe_const T.k_BOLTED))) pss_nil)
    (pss_one (ps_ret (pe_fld (pv 1) rfl)))))), ?_⟩)
  · obtain ⟨d, c, k, b, a, x, rfl, _⟩ := h
    rfl
  · obtain ⟨d, c, k, b, a, x, rfl, ⟨dx, e1⟩, ⟨dc, e2⟩, q⟩ := h
    refine ⟨_, rfl, d, dx, _, rfl, e1, lk_no nDoor rfl (by decide +kernel), _, rfl, d, c, k, b, a, x, rfl, ⟨dx, e1⟩, ⟨dc, e2⟩, _, rfl, ?_⟩
    unfold judge at q
    by_cases h1 : isMeant a x = true
    · rw [if_pos h1] at q
      refine if_false_of (congrArg not h1) ⟨_, rfl, _, _, dc, _, _, rfl, e2, T.cl_Card, T.no_Card_last, cF_last _, _, rfl, _, _, dx, _, _, rfl, e1, T.cl_Door, T.no_Door_day, dF_day _ _ _, _, _, rfl, rfl, _, rfl, ?_⟩
      have c2 : decide ((x.last : Int) < (a.day : Int)) = decide (x.last < a.day) := lt_dec _ _
      by_cases h2 : x.last < a.day
      · rw [if_pos h2] at q
        exact if_true_of (c2.trans (decide_eq_true h2)) q
      · rw [if_neg h2] at q
        refine if_false_of (c2.trans (decide_eq_false h2)) ⟨_, rfl, _, _, dc, _, _, rfl, e2, T.cl_Card, T.no_Card_number, cF_number _, _, rfl, d, dx, _, rfl, e1, lk_no nDoor rfl (by decide +kernel), _, rfl, d, c, k, b, a, x, rfl, ⟨dx, e1⟩, ⟨dc, e2⟩, _, _, rfl, rfl, _, rfl, ?_⟩
        have c3 : decide ((x.number : Int) < (newest a x : Int)) = decide (x.number < newest a x) := lt_dec _ _
        by_cases h3 : x.number < newest a x
        · rw [if_pos h3] at q
          exact if_true_of (c3.trans (decide_eq_true h3)) q
        · rw [if_neg h3] at q
          refine if_false_of (c3.trans (decide_eq_false h3)) ⟨_, rfl, _, _, dx, _, _, rfl, e1, T.cl_Door, T.no_Door_bolted, dF_bolted _ _ _, _, rfl, ?_⟩
          have c4 : decide ((x.kind : Int) = 1) = decide (x.kind = 1) := int_dec x.kind 1
          have c5 : decide ((x.kind : Int) = 2) = decide (x.kind = 2) := int_dec x.kind 2
          cases hb : a.bolted with
          | false =>
            rw [hb, if_neg (fun z => Bool.noConfusion z.1)] at q
            refine if_false_of rfl ?_
            exact if_false_of rfl ⟨_, rfl, _, _, dc, _, _, rfl, e2, T.cl_Card, T.no_Card_kind, cF_kind _, q⟩
          | true =>
            rw [hb] at q
            refine if_true_of rfl ⟨_, rfl, _, _, dc, _, _, rfl, e2, T.cl_Card, T.no_Card_kind, cF_kind _, _, _, rfl, rfl, _, rfl, ?_⟩
            by_cases h4 : x.kind = 1
            · rw [if_pos ⟨rfl, .inl h4⟩] at q
              refine if_true_of (c4.trans (decide_eq_true h4)) ?_
              exact if_true_of rfl q
            · refine if_false_of (c4.trans (decide_eq_false h4)) ⟨_, rfl, _, _, dc, _, _, rfl, e2, T.cl_Card, T.no_Card_kind, cF_kind _, _, _, rfl, rfl, _, rfl, ?_⟩
              by_cases h5 : x.kind = 2
              · rw [if_pos ⟨rfl, .inr h5⟩] at q
                exact if_true_of (c5.trans (decide_eq_true h5)) q
              · rw [if_neg (by
                  rintro ⟨_, z | z⟩
                  · exact h4 z
                  · exact h5 z)] at q
                exact if_false_of (c5.trans (decide_eq_false h5)) ⟨_, rfl, _, _, dc, _, _, rfl, e2, T.cl_Card, T.no_Card_kind, cF_kind _, q⟩
    · rw [if_neg h1] at q
      exact if_true_of (congrArg not (Bool.eq_false_iff.mpr h1)) q
def wouldAns (a : Abs) (x : List Nat) : Int := if isCard a.key x = true then judge a (Ks345.cardOf x) else -71
def spWould (K : PySem.W.Frag) (A : Ad) : Sp := fun vs H Q _ => ∃ (d c k b : Addr) (a : Abs) (x : List Nat), vs = [.ref d, .ref c] ∧ DoorAt A H d k b a ∧ Good a ∧ SqL K H c (nums x) ∧ B8 x ∧
  ∀ H', Kept [] H H' → Q (.int (wouldAns a x)) H'
theorem ok_would (T : Txt K mg A) : FnOk P w K mg base CX0 7 A.f_Door_would_answer A.d_Door_would_answer P_Door_would_answer (spWould K A) := by
  have GC : FnOk P w K mg base CX0 6 A.f_is_card A.d_is_card P_is_card (spIsCard K) := ok_is_card T
  have GJ : FnOk P w K mg base CX0 3 A.f_Door_judge A.d_Door_judge P_Door_judge (spJudge A) := ok_judge T
  have GI : FnOk P w K mg base CX0 2 A.f_Card_init A.d_Card_init P_Card_init (spCardInit K A) := ok_Card_init T
  refine T.F_Door_would_answer.ok sc_Door_would_answer (fun vs H Q E h => ?_) (fun cdv Ar outer s H vs Q E hr h => ⟨_,
    pss_cons (ps_if (pt_not (pt_val (pe_call GC hr rfl T.g_is_card T.F_is_card.kp T.B_is_card .nil pass0 (pa_cons (pv 1) (pa_cons (pe_fld (pv 0) rfl) pa_nil))))) (pss_one (ps_ret (pe_const T.k_NOT_A_CARD))) pss_nil)
    (pss_one (ps_ret (pe_meth (pv 0) T.cl_Door T.M_Door_judge GJ (hr.mono (by decide)) T.B_Door_judge .nil pass0 (pa_cons (pe_make T.mk_Card GI (hr.mono (by decide)) rfl T.gc_Card T.B_Card_init .nil pass0 (pa_cons (pv 1) pa_nil)) pa_nil)))), ?_⟩)
  · obtain ⟨d, c, k, b, a, x, rfl, _⟩ := h
    rfl
  · obtain ⟨d, c, k, b, a, x, rfl, hd, g, hc, hx, q⟩ := h
    have hd' := hd
    obtain ⟨es, ⟨dx, e1⟩, e2, e3, e4, e5⟩ := hd'
    refine ⟨_, rfl, _, rfl, _, _, dx, _, _, rfl, e1, T.cl_Door, T.no_Door_key, dF_key _ _ _, c, k, x, a.key, rfl, hc, SqL.of e2, hx, g.k16, g.k8, fun H1 k1 => ⟨_, rfl, ?_⟩⟩
    unfold wouldAns at q
    by_cases h1 : isCard a.key x = true
    · rw [if_pos h1] at q
      refine if_false_of (congrArg not h1) ⟨_, rfl, d, dx, _, rfl, k1.at0 e1, lk_no nDoor rfl (by decide +kernel), _, rfl, fun y dy ny nd ne => ?_⟩
      refine ⟨y, dy, c, x, rfl, upd_same, ((Kept.new nd).trans (Kept.new (by rw [upd_ne ne.symm]; exact ny))).seq0 (k1.seq0 hc), by rw [(kind_of h1).1]; decide, fun H2 c2 k2 => ⟨rfl, ?_⟩⟩
      have k02 : Kept [] H H2 := k1.trans (Kept.made ny nd k2)
      exact ⟨d, y, k, b, a, Ks345.cardOf x, rfl, ⟨dx, k02.at0 e1⟩, c2, q H2 k02⟩
    · rw [if_neg h1] at q
      exact if_true_of (congrArg not (Bool.eq_false_iff.mpr h1)) (q H1 k1)
end
end LD

set_option maxRecDepth 100000
set_option maxHeartbeats 4000000
namespace LD
open PySem PySem.Spec PyProof.Rows L2
open PySem.W (Codec)
section
open Ks346 (Abs)
variable {P : Program} {w : World} {K : PySem.W.Frag} {mg : Str → Option Value} {base : Heap} {A : Ad}
def spWrite (A : Ad) : Sp := fun vs H Q _ => ∃ (d c k b : Addr) (a : Abs) (x : Ks345.Card), vs = [.ref d, .ref c] ∧ DoorAt A H d k b a ∧ CardAt A H c x ∧ a.book.length ≤ 16 ∧
  ∀ H', DoorAt A H' d k b (Ks346.wrote a x) → Kept [b] H H' → Q .non H'
theorem ok_write_down (T : Txt K mg A) : FnOk P w K mg base CX0 1 A.f_Door_write_down A.d_Door_write_down P_Door_write_down (spWrite A) := by
  refine T.F_Door_write_down.ok sc_Door_write_down (fun vs H Q E h => ?_) (fun cdv Ar outer s H vs Q E hr h => ⟨_,
    pss_cons (ps_expr (pe_bm PySem.F.plainAttrs_list PySem.F.slot_list_append PySem.F.type_list_append mt_append (pe_fld (pv 0) rfl)
      (pa_cons (pe_tup (pa_cons (pe_fld (pv 1) rfl) (pa_cons (pe_fld (pv 1) rfl) (pa_cons (pe_fld (pv 1) rfl) (pa_cons (pe_fld (pv 0) rfl) pa_nil))))) pa_nil)))
    (pss_one (ps_if (pt_cmp (pc_gt (pe_callB call_len_seq (by rfl) T.b_len PySem.boot_len (pa_cons (pe_fld (pv 0) rfl) pa_nil)) (pe_const T.k_BOOK_LENGTH)))
      (pss_one (ps_expr (pe_bm PySem.F.plainAttrs_list PySem.F.slot_list_pop PySem.F.type_list_pop mt_popAt (pe_fld (pv 0) rfl) (pa_cons pe_int pa_nil)))) pss_nil)), ?_⟩)
  · obtain ⟨d, c, k, b, a, x, rfl, _⟩ := h
    rfl
  · obtain ⟨d, c, k, b, a, x, rfl, ⟨es, ⟨dx, e1⟩, e2, e3, e4, e5⟩, ⟨dc, e6⟩, hl, q⟩ := h
    refine ⟨_, rfl, _, _, dx, _, _, rfl, e1, T.cl_Door, T.no_Door_book, dF_book _ _ _, .inl ⟨rfl, _, SqL.of e4⟩, ?_⟩
    refine ⟨_, rfl, _, _, dc, _, _, rfl, e6, T.cl_Card, T.no_Card_kind, cF_kind _, _, rfl, _, _, dc, _, _, rfl, e6, T.cl_Card, T.no_Card_number, cF_number _, _, rfl, _, _, dc, _, _, rfl, e6, T.cl_Card, T.no_Card_serial, cF_serial _,
      _, rfl, _, _, dx, _, _, rfl, e1, T.cl_Door, T.no_Door_day, dF_day _ _ _, (by show 4 ≤ sizeLine; decide), fun t nt => ?_⟩
    have kt : Kept [] H (upd H t (.tup [nI x.kind, nI x.number, nI x.serial, nI a.day])) := Kept.new nt
    have et : upd H t (.tup [nI x.kind, nI x.number, nI x.serial, nI a.day]) t = some (.tup (entV (entryOf a x))) := upd_same
    refine ⟨b, es, _, rfl, rfl, kt.at0 e4, small1000 (by rw [e5.1, List.length_reverse]; omega), ?_⟩
    generalize upd H t (.tup [nI x.kind, nI x.number, nI x.serial, nI a.day]) = H1 at kt et
    have en : Ents H1 (es ++ [.ref t]) (a.book.reverse ++ [entryOf a x]) := (e5.kept fun t xs z => kt.at0 z).snoc et
    have hd : d ≠ b := ne_of e1 e4 fun z => nomatch z
    have k2 : Kept [b] H1 (upd H1 b (.lst (es ++ [.ref t]))) := Kept.put (List.mem_singleton.mpr rfl)
    have eb : upd H1 b (.lst (es ++ [.ref t])) b = some (.lst (es ++ [.ref t])) := upd_same
    have nb : ∀ {y : Addr} {xs : List V}, H1 y = some (.tup xs) → y ∉ [b] := fun z => no1 (ne_of z (kt.at0 e4) fun z => nomatch z)
    generalize upd H1 b (.lst (es ++ [.ref t])) = H2 at k2 eb
    have e1' := k2.at (kt.at0 e1) (no1 hd)
    have en' : Ents H2 (es ++ [.ref t]) (a.book.reverse ++ [entryOf a x]) := en.kept fun t xs z => k2.at z (nb z)
    have ek' := k2.at (kt.at0 e2) (no1 e3)
    have hw := wrote_book (a := a) (c := x) hl
    have hlen : (es ++ [V.ref t]).length = (a.book.reverse ++ [entryOf a x]).length := en'.1
    refine ⟨_, rfl, _, _, dx, _, _, rfl, e1', T.cl_Door, T.no_Door_book, dF_book _ _ _, b, _, rfl, .inl (SqL.of eb), _, _, rfl, rfl, _, rfl, ?_⟩
    have c1 : decide ((16 : Int) < ((es ++ [V.ref t]).length : Int)) = decide (16 < (es ++ [V.ref t]).length) := lt_dec 16 _
    by_cases h1 : 16 < (es ++ [V.ref t]).length
    · rw [if_pos (by rw [← hlen]; exact h1)] at hw
      refine if_true_of (c1.trans (decide_eq_true h1)) ?_
      have h0 : (es ++ [V.ref t]).length = (es ++ [V.ref t]).length - 1 + 1 := by omega
      refine ⟨_, rfl, _, _, dx, _, _, rfl, e1', T.cl_Door, T.no_Door_book, dF_book _ _ _, .inl ⟨rfl, _, SqL.of eb⟩, b, _, 0, 0, (es ++ [V.ref t])[0]'(by omega), rfl, rfl, eb, by decide, by decide, ?_, List.getElem?_eq_getElem _, ?_⟩
      · generalize (es ++ [V.ref t]).length = n at h1
        show (if ((0 : Int) ≤ 0 && decide ((0 : Int) < (n : Int))) = true then some (0 : Int).toNat else none) = some 0
        rw [decide_eq_true (show (0 : Int) < (n : Int) by omega)]
        rfl
      · have k3 : Kept [b] H2 (upd H2 b (.lst ((es ++ [V.ref t]).eraseIdx 0))) := Kept.put (List.mem_singleton.mpr rfl)
        refine q _ ⟨_, ⟨dx, k3.at e1' (no1 hd)⟩, k3.at ek' (no1 e3), e3, upd_same, ?_⟩ ((kt.any.trans k2).trans k3)
        rw [hw]
        exact en'.tail.kept fun t xs z => k3.at z (no1 (ne_of z eb fun z => nomatch z))
    · rw [if_neg (by rw [← hlen]; exact h1)] at hw
      refine if_false_of (c1.trans (decide_eq_false h1)) ?_
      refine q H2 ⟨_, ⟨dx, e1'⟩, ek', e3, eb, ?_⟩ (kt.any.trans k2)
      rw [hw]
      exact en'
def spLearn (A : Ad) : Sp := fun vs H Q _ => ∃ (d c k b : Addr) (a : Abs) (x : Ks345.Card), vs = [.ref d, .ref c] ∧ DoorAt A H d k b a ∧ CardAt A H c x ∧ a.book.length ≤ 16 ∧
  ∀ H', DoorAt A H' d k b (learn a x) → Kept [d, b] H H' → Q .non H'
theorem ok_learn (T : Txt K mg A) : FnOk P w K mg base CX0 2 A.f_Door_learn A.d_Door_learn P_Door_learn (spLearn A) := by
  have GR : FnOk P w K mg base CX0 1 A.f_is_for_room A.d_is_for_room P_is_for_room spForRoom := ok_is_for_room T
  have GW : FnOk P w K mg base CX0 1 A.f_Door_write_down A.d_Door_write_down P_Door_write_down (spWrite A) := ok_write_down T
  refine T.F_Door_learn.ok sc_Door_learn (fun vs H Q E h => ?_) (fun cdv Ar outer s H vs Q E hr h => ⟨_,
    pss_cons (ps_if (pt_val (pe_call GR hr rfl T.g_is_for_room T.F_is_for_room.kp T.B_is_for_room .nil pass0 (pa_cons (pe_fld (pv 1) rfl) pa_nil))) (pss_one (ps_fld (pv 0) (pe_fld (pv 1) rfl) rfl)) (pss_one (ps_fld (pv 0) (pe_fld (pv 1) rfl) rfl)))
    (pss_cons (ps_if (pt_cmp (pc_eqI (pe_fld (pv 1) rfl) (pe_const T.k_EMERGENCY))) (pss_one (ps_fld (pv 0) pe_bl rfl)) pss_nil)
    (pss_one (ps_expr (pe_meth (pv 0) T.cl_Door T.M_Door_write_down GW hr T.B_Door_write_down .nil pass0 (pa_cons (pv 1) pa_nil))))), ?_⟩)
  · obtain ⟨d, c, k, b, a, x, rfl, _⟩ := h
    rfl
  · obtain ⟨d, c, k, b, a, x, rfl, ⟨es, ⟨dx, e1⟩, e2, e3, e4, e5⟩, ⟨dc, e6⟩, hl, q⟩ := h
    have md : d ∈ [d, b] := List.mem_cons_self ..
    have hcd : c ≠ d ∨ c = d := Classical.em _ |>.symm
    -- behind the number: the bolt, then the book
    have c4 : decide ((x.kind : Int) = 4) = decide (x.kind = 4) := int_dec x.kind 4
    have cd : A.C_Card ≠ A.C_Door ∨ A.C_Card = A.C_Door := Classical.em _ |>.symm
    have ncd : c ≠ d := fun z => by
      subst z
      rw [e1] at e6
      have z := Option.some.inj e6
      injection z with _ _ z
      have z1 := congrArg List.length z
      cases z1
    have e7 : ∀ {o}, upd H d o c = some (.ins A.C_Card dc (cF x)) := fun {o} => by
      rw [upd_ne ncd]
      exact e6
    have e8 : ∀ {o o'}, upd (upd H d o) d o' c = some (.ins A.C_Card dc (cF x)) := fun {o o'} => by
      rw [upd_ne ncd, upd_ne ncd]
      exact e6
    have fl := lrn_fields a x
    refine ⟨_, rfl, _, _, dc, _, _, rfl, e6, T.cl_Card, T.no_Card_kind, cF_kind _, x.kind, rfl, _, rfl, ?_⟩
    by_cases h1 : forRoom x.kind = true
    · have l1 : lrn1 a x = { a with number := x.number } := if_pos h1
      refine if_true_of h1 ⟨_, rfl, _, _, dc, _, _, rfl, e6, T.cl_Card, T.no_Card_number, cF_number _, _, rfl, d, _, dx, _, rfl, e1, T.cl_Door, T.no_Door_learned_number, (by show 8 < 1000; decide), ?_⟩
      have D1 : DoorAt A (upd H d (.ins A.C_Door dx (putF "learned_number" (nI x.number) (dF k b a)))) d k b { a with number := x.number } := DoorAt.put e1 e2 e3 e4 e5 (dF_pnumber _ _ _ _) rfl rfl
      refine ⟨_, rfl, _, _, dc, _, _, rfl, e7, T.cl_Card, T.no_Card_kind, cF_kind _, _, _, rfl, rfl, _, rfl, ?_⟩
      by_cases h4 : x.kind = 4
      · have l2 : lrn2 (lrn1 a x) x = { a with number := x.number, bolted := false } := (if_pos h4).trans (by rw [l1])
        refine if_true_of (c4.trans (decide_eq_true h4)) ⟨_, rfl, d, _, dx, _, rfl, ins_put (dF_pnumber _ _ _ _), T.cl_Door, T.no_Door_bolted, (by show 8 < 1000; decide), ?_⟩
        obtain ⟨es', _, f2, f3, f4, f5⟩ := D1
        have D2 := DoorAt.put (y := .bl false) (ins_put (dF_pnumber k b a x.number) : _ = some (HO.ins A.C_Door dx _)) f2 f3 f4 f5 (dF_pbolted _ _ _ _) rfl rfl
        refine ⟨_, rfl, d, dx, _, rfl, upd_same, ?_, _, rfl, d, c, k, b, _, x, rfl, D2, ⟨dc, e8⟩, hl, fun H3 D3 k3 => q H3 ?_ ?_⟩
        · rw [dF_pbolted]
          exact lk_no nDoor rfl (by decide +kernel)
        · unfold learn
          rw [l2]
          exact D3
        · exact ((Kept.put md).trans (Kept.put md)).trans (k3.mono fun y z => List.mem_cons_of_mem _ z)
      · have l2 : lrn2 (lrn1 a x) x = { a with number := x.number } := (if_neg h4).trans l1
        refine if_false_of (c4.trans (decide_eq_false h4)) ⟨_, rfl, d, dx, _, rfl, ins_put (dF_pnumber _ _ _ _), lk_no nDoor rfl (by decide +kernel), _, rfl, d, c, k, b, _, x, rfl, D1, ⟨dc, e7⟩, hl, fun H3 D3 k3 => q H3 ?_ ?_⟩
        · unfold learn
          rw [l2]
          exact D3
        · exact (Kept.put md).trans (k3.mono fun y z => List.mem_cons_of_mem _ z)
    · have l1 : lrn1 a x = { a with epoch := x.number } := if_neg h1
      refine if_false_of (Bool.eq_false_iff.mpr h1) ⟨_, rfl, _, _, dc, _, _, rfl, e6, T.cl_Card, T.no_Card_number, cF_number _, _, rfl, d, _, dx, _, rfl, e1, T.cl_Door, T.no_Door_learned_round, (by show 8 < 1000; decide), ?_⟩
      have D1 : DoorAt A (upd H d (.ins A.C_Door dx (putF "learned_round" (nI x.number) (dF k b a)))) d k b { a with epoch := x.number } := DoorAt.put e1 e2 e3 e4 e5 (dF_pepoch _ _ _ _) rfl rfl
      refine ⟨_, rfl, _, _, dc, _, _, rfl, e7, T.cl_Card, T.no_Card_kind, cF_kind _, _, _, rfl, rfl, _, rfl, ?_⟩
      by_cases h4 : x.kind = 4
      · have l2 : lrn2 (lrn1 a x) x = { a with epoch := x.number, bolted := false } := (if_pos h4).trans (by rw [l1])
        refine if_true_of (c4.trans (decide_eq_true h4)) ⟨_, rfl, d, _, dx, _, rfl, ins_put (dF_pepoch _ _ _ _), T.cl_Door, T.no_Door_bolted, (by show 8 < 1000; decide), ?_⟩
        obtain ⟨es', _, f2, f3, f4, f5⟩ := D1
        have D2 := DoorAt.put (y := .bl false) (ins_put (dF_pepoch k b a x.number) : _ = some (HO.ins A.C_Door dx _)) f2 f3 f4 f5 (dF_pbolted _ _ _ _) rfl rfl
        refine ⟨_, rfl, d, dx, _, rfl, upd_same, ?_, _, rfl, d, c, k, b, _, x, rfl, D2, ⟨dc, e8⟩, hl, fun H3 D3 k3 => q H3 ?_ ?_⟩
        · rw [dF_pbolted]
          exact lk_no nDoor rfl (by decide +kernel)
        · unfold learn
          rw [l2]
          exact D3
        · exact ((Kept.put md).trans (Kept.put md)).trans (k3.mono fun y z => List.mem_cons_of_mem _ z)
      · have l2 : lrn2 (lrn1 a x) x = { a with epoch := x.number } := (if_neg h4).trans l1
        refine if_false_of (c4.trans (decide_eq_false h4)) ⟨_, rfl, d, dx, _, rfl, ins_put (dF_pepoch _ _ _ _), lk_no nDoor rfl (by decide +kernel), _, rfl, d, c, k, b, _, x, rfl, D1, ⟨dc, e7⟩, hl, fun H3 D3 k3 => q H3 ?_ ?_⟩
        · unfold learn
          rw [l2]
          exact D3
        · exact (Kept.put md).trans (k3.mono fun y z => List.mem_cons_of_mem _ z)
def shownTo (a : Abs) (x : List Nat) : Abs := if 0 < wouldAns a x then learn a (Ks345.cardOf x) else a
def spShow (K : PySem.W.Frag) (A : Ad) : Sp := fun vs H Q _ => ∃ (d c k b : Addr) (a : Abs) (x : List Nat), vs = [.ref d, .ref c] ∧ DoorAt A H d k b a ∧ Good a ∧ SqL K H c (nums x) ∧ B8 x ∧
  ∀ H', DoorAt A H' d k b (shownTo a x) → Kept [d, b] H H' → Q (.int (wouldAns a x)) H'
theorem ok_show (T : Txt K mg A) : FnOk P w K mg base CX0 8 A.f_Door_show A.d_Door_show P_Door_show (spShow K A) := by
  have GW : FnOk P w K mg base CX0 7 A.f_Door_would_answer A.d_Door_would_answer P_Door_would_answer (spWould K A) := ok_would T
  have GL : FnOk P w K mg base CX0 2 A.f_Door_learn A.d_Door_learn P_Door_learn (spLearn A) := ok_learn T
  have GI : FnOk P w K mg base CX0 2 A.f_Card_init A.d_Card_init P_Card_init (spCardInit K A) := ok_Card_init T
  refine T.F_Door_show.ok sc_Door_show (fun vs H Q E h => ?_) (fun cdv Ar outer s H vs Q E hr h => ⟨_,
    pss_cons (ps_set (i := 2) sc_Door_show.nd rfl (Or.inl rfl) (pe_meth (pv 0) T.cl_Door T.M_Door_would_answer GW hr T.B_Door_would_answer .nil pass0 (pa_cons (pv 1) pa_nil)))
    (pss_cons (ps_if (pt_cmp (pc_gt (pv 2) pe_int)) (pss_one (ps_expr (pe_meth (pv 0) T.cl_Door T.M_Door_learn GL (hr.mono (by decide)) T.B_Door_learn .nil pass0 (pa_cons (pe_make T.mk_Card GI (hr.mono (by decide)) rfl T.gc_Card T.B_Card_init .nil pass0 (pa_cons (pv 1) pa_nil)) pa_nil)))) pss_nil)
    (pss_one (ps_ret (pv 2)))), ?_⟩)
  · obtain ⟨d, c, k, b, a, x, rfl, _⟩ := h
    rfl
  · obtain ⟨d, c, k, b, a, x, rfl, hd, g, hc, hx, q⟩ := h
    obtain ⟨es, ⟨dx, e1⟩, _⟩ := id hd
    refine ⟨_, rfl, d, dx, _, rfl, e1, lk_no nDoor rfl (by decide +kernel), _, rfl, d, c, k, b, a, x, rfl, hd, g, hc, hx, fun H1 k1 => ?_⟩
    refine ⟨_, rfl, _, _, rfl, rfl, _, rfl, ?_⟩
    unfold shownTo at q
    by_cases h1 : 0 < wouldAns a x
    · rw [if_pos h1] at q
      have hcard : isCard a.key x = true := by
        cases z : isCard a.key x with
        | true => rfl
        | false =>
          unfold wouldAns at h1
          rw [z, if_neg Bool.false_ne_true] at h1
          omega
      refine if_true_of (decide_eq_true h1) ⟨_, rfl, d, dx, _, rfl, k1.at0 e1, lk_no nDoor rfl (by decide +kernel), _, rfl, fun y dy ny nd ne => ?_⟩
      refine ⟨y, dy, c, x, rfl, upd_same, ((Kept.new nd).trans (Kept.new (by rw [upd_ne ne.symm]; exact ny))).seq0 (k1.seq0 hc), by rw [(kind_of hcard).1]; decide, fun H2 c2 k2 => ⟨rfl, ?_⟩⟩
      have k02 : Kept [] H H2 := k1.trans (Kept.made ny nd k2)
      exact ⟨d, y, k, b, a, Ks345.cardOf x, rfl, hd.kept0 k02, c2, g.book, fun H3 D3 k3 => ⟨_, rfl, q H3 D3 (k02.any.trans k3)⟩⟩
    · rw [if_neg h1] at q
      exact if_false_of (decide_eq_false h1) ⟨_, rfl, q H1 (hd.kept0 k1) k1.any⟩
end
end LD

set_option maxRecDepth 100000
set_option maxHeartbeats 4000000
namespace LD
open PySem PySem.Spec PyProof.Rows L2
open PySem.W (Codec)
/-! ### the reader -/
section
variable {P : Program} {w : World} {K : PySem.W.Frag} {mg : Str → Option Value} {base : Heap} {A : Ad}
def intsV (l : List Int) : List V := l.map V.int
def nRead : List Str := ["calls", "at"]
def rF (c : Addr) (i : Nat) : List (Str × V) := [("calls", .ref c), ("at", nI i)]
def RdAt (A : Ad) (H : Hp) (r c : Addr) (i : Nat) : Prop := ∃ dx, H r = some (.ins A.C_Reader dx (rF c i))
theorem rF_calls (c : Addr) (i : Nat) : (rF c i).lookup ("calls" : Str) = some (.ref c) := lk_ix 0 nRead rfl (by decide +kernel) rfl
theorem rF_at (c : Addr) (i : Nat) : (rF c i).lookup ("at" : Str) = some (nI i) := lk_ix 1 nRead rfl (by decide +kernel) rfl
theorem rF_pat (c : Addr) (i j : Nat) : putF "at" (nI j) (rF c i) = rF c j := (put_ix 1 nRead rfl (by decide +kernel)).trans rfl
theorem ri0 (y0 : V) : putF "calls" y0 ([] : List (Str × V)) = ([("calls", y0)] : List (Str × V)) := put_end [] rfl (by decide +kernel)
theorem ri1 (y0 y1 : V) : putF "at" y1 ([("calls", y0)] : List (Str × V)) = ([("calls", y0), ("at", y1)] : List (Str × V)) := put_end ["calls"] rfl (by decide +kernel)
/-- what is read may be tracked: then it stands, whatever is not a list at that place is changed -/
theorem Kept.src {ex : List Addr} {H H1 : Hp} {a : Addr} {xs : List V} (k : Kept ex H H1) (h : SqL K H a xs) (n : ∀ o, H a = some o → a ∉ ex) : SqL K H1 a xs := by
  rcases h with (h | ⟨o, h⟩) | h
  · exact .inl (.inl (k _ _ h (n _ h)))
  · exact .inl (.inr ⟨o, k _ _ h (n _ h)⟩)
  · exact .inr h
/-- beside an instance -/
theorem src_ins {H : Hp} {a p C dx : Addr} {xs : List V} {fs : List (Str × V)} (h : SqL K H a xs) (e : H p = some (.ins C dx fs)) {H1 : Hp} (k : Kept [p] H H1) : SqL K H1 a xs := by
  rcases h with (h | ⟨o, h⟩) | h
  · exact .inl (.inl (k _ _ h (no1 (ne_of h e fun z => nomatch z))))
  · exact .inl (.inr ⟨o, k _ _ h (no1 (ne_of h e fun z => nomatch z))⟩)
  · exact .inr h
def spReaderInit (A : Ad) : Sp := fun vs H Q _ => ∃ (p dx c : Addr), vs = [.ref p, .ref c] ∧ H p = some (.ins A.C_Reader dx []) ∧ ∀ H', RdAt A H' p c 0 → Kept [p] H H' → Q .non H'
theorem ok_Reader_init (T : Txt K mg A) : FnOk P w K mg base CX0 1 A.f_Reader_init A.d_Reader_init P_Reader_init (spReaderInit A) := by
  refine T.F_Reader_init.ok sc_Reader_init (fun vs H Q E h => ?_) (fun cdv Ar outer s H vs Q E hr h => ⟨_, pss_cons (ps_fld (pv 0) (pv 1) rfl) (pss_one (ps_fld (pv 0) pe_int rfl)), ?_⟩)
  · obtain ⟨p, dx, c, rfl, _⟩ := h
    rfl
  · obtain ⟨p, dx, c, rfl, hp, q⟩ := h
    have m : p ∈ [p] := List.mem_singleton.mpr rfl
    refine ⟨_, rfl, _, rfl, p, _, dx, _, rfl, hp, T.cl_Reader, T.no_Reader_calls, (by show 0 < 1000; decide), ?_⟩
    refine ⟨_, rfl, p, _, dx, _, rfl, ins_put (ri0 _), T.cl_Reader, T.no_Reader_at, (by show 1 < 1000; decide), ?_⟩
    exact q _ ⟨dx, ins_put (ri1 _ _)⟩ ((Kept.put m).trans (Kept.put m))
def spIsDone (K : PySem.W.Frag) (A : Ad) : Sp := fun vs H Q _ => ∃ (r c : Addr) (i : Nat) (l : List Int), vs = [.ref r] ∧ RdAt A H r c i ∧ SqL K H c (intsV l) ∧ Q (.bl (decide (l.length ≤ i))) H
theorem ok_is_done (T : Txt K mg A) : FnOk P w K mg base CX0 1 A.f_Reader_is_done A.d_Reader_is_done P_Reader_is_done (spIsDone K A) := by
  refine T.F_Reader_is_done.ok sc_Reader_is_done (fun vs H Q E h => ?_) (fun cdv Ar outer s H vs Q E hr h => ⟨_,
    pss_one (ps_ret (pe_cmp (pc_ge (pe_fld (pv 0) rfl) (pe_callB call_len_seq (by rfl) T.b_len PySem.boot_len (pa_cons (pe_fld (pv 0) rfl) pa_nil))))), ?_⟩)
  · obtain ⟨r, c, i, l, rfl, _⟩ := h
    rfl
  · obtain ⟨r, c, i, l, rfl, ⟨dx, e⟩, hc, q⟩ := h
    refine ⟨_, rfl, _, _, dx, _, _, rfl, e, T.cl_Reader, T.no_Reader_at, rF_at _ _, _, rfl, _, _, dx, _, _, rfl, e, T.cl_Reader, T.no_Reader_calls, rF_calls _ _, c, _, rfl, .inl hc, _, _, rfl, rfl, ?_⟩
    have e1 : decide (((intsV l).length : Int) ≤ (i : Int)) = decide (l.length ≤ i) := by
      rw [le_dec]
      unfold intsV
      rw [List.length_map]
    rw [← e1] at q
    exact q
theorem intsV_at {l : List Int} {i : Nat} {z : Int} (h : l[i]? = some z) : atI (intsV l) (i : Int) = some (.int z) := atI_nat (by
  unfold intsV
  rw [List.getElem?_map, h]
  rfl)
def spTakeNum (K : PySem.W.Frag) (A : Ad) : Sp := fun vs H Q _ => ∃ (r c : Addr) (i : Nat) (l : List Int) (z : Int), vs = [.ref r] ∧ RdAt A H r c i ∧ SqL K H c (intsV l) ∧ l[i]? = some z ∧
  ∀ H', RdAt A H' r c (i + 1) → Kept [r] H H' → Q (.int z) H'
theorem ok_take_number (T : Txt K mg A) : FnOk P w K mg base CX0 1 A.f_Reader_take_number A.d_Reader_take_number P_Reader_take_number (spTakeNum K A) := by
  refine T.F_Reader_take_number.ok sc_Reader_take_number (fun vs H Q E h => ?_) (fun cdv Ar outer s H vs Q E hr h => ⟨_,
    pss_cons (ps_set (i := 1) sc_Reader_take_number.nd rfl (Or.inl rfl) (pe_ix ix_list (pe_fld (pv 0) rfl) (pe_fld (pv 0) rfl) (fun _ _ => rfl)))
    (pss_cons (ps_fld (pv 0) (pe_op op_add (pe_fld (pv 0) rfl) pe_int) rfl)
    (pss_one (ps_ret (pv 1)))), ?_⟩)
  · obtain ⟨r, c, i, l, z, rfl, _⟩ := h
    rfl
  · obtain ⟨r, c, i, l, z, rfl, ⟨dx, e⟩, hc, hz, q⟩ := h
    refine ⟨_, rfl, _, _, dx, _, _, rfl, e, T.cl_Reader, T.no_Reader_calls, rF_calls _ _, _, rfl, _, _, dx, _, _, rfl, e, T.cl_Reader, T.no_Reader_at, rF_at _ _, c, _, _, _, rfl, rfl, hc, intsV_at hz, ?_⟩
    refine ⟨_, rfl, _, _, dx, _, _, rfl, e, T.cl_Reader, T.no_Reader_at, rF_at _ _, _, _, rfl, rfl, _, rfl, r, _, dx, _, rfl, e, T.cl_Reader, T.no_Reader_at, (by show 2 < 1000; decide), ?_⟩
    exact ⟨_, rfl, q _ ⟨dx, ins_put (rF_pat c i (i + 1))⟩ (Kept.put (List.mem_singleton.mpr rfl))⟩
def spTakeRow (K : PySem.W.Frag) (A : Ad) : Sp := fun vs H Q _ => ∃ (r c : Addr) (i : Nat) (l x t : List Int), vs = [.ref r] ∧ RdAt A H r c i ∧ SqL K H c (intsV l) ∧ l.drop i = (x.length : Int) :: (x ++ t) ∧
  ∀ H' p, RdAt A H' r c (i + 1 + x.length) → Kept [r] H H' → H p = none → H' p = some (.lst (intsV x)) → Q (.ref p) H'
theorem intsV_cut {l : List Int} {i j : Nat} : cutV (intsV l) (some (i : Int)) (some (j : Int)) = intsV ((l.drop i).take (j - i)) := by
  unfold cutV intsV
  rw [HT.sIx_nat, HT.sIx_nat, List.length_map, ← List.map_drop, ← List.map_take]
  congr 1
  by_cases h : i ≤ l.length
  · rw [Nat.min_eq_left h]
    by_cases h' : j ≤ l.length
    · rw [Nat.min_eq_left h']
    · rw [Nat.min_eq_right (by omega), List.take_of_length_le (by rw [List.length_drop]; omega), List.take_of_length_le (by rw [List.length_drop]; omega)]
  · rw [Nat.min_eq_right (a := i) (by omega), List.drop_eq_nil_of_le (Nat.le_refl _), List.drop_eq_nil_of_le (as := l) (i := i) (by omega), List.take_nil, List.take_nil]
theorem drop_head {l r : List Int} {i : Nat} {z : Int} (h : l.drop i = z :: r) : l[i]? = some z ∧ l.drop (i + 1) = r := by
  have hi : i < l.length := by
    by_cases c : i < l.length
    · exact c
    · rw [List.drop_eq_nil_of_le (by omega)] at h
      cases h
  rw [List.drop_eq_getElem_cons hi] at h
  injection h with h1 h2
  exact ⟨by rw [List.getElem?_eq_getElem hi, h1], h2⟩
theorem ok_take_row (T : Txt K mg A) : FnOk P w K mg base CX0 2 A.f_Reader_take_row A.d_Reader_take_row P_Reader_take_row (spTakeRow K A) := by
  have G : FnOk P w K mg base CX0 1 A.f_Reader_take_number A.d_Reader_take_number P_Reader_take_number (spTakeNum K A) := ok_take_number T
  refine T.F_Reader_take_row.ok sc_Reader_take_row (fun vs H Q E h => ?_) (fun cdv Ar outer s H vs Q E hr h => ⟨_,
    pss_cons (ps_set (i := 1) sc_Reader_take_row.nd rfl (Or.inl rfl) (pe_meth0 (pv 0) T.cl_Reader T.M_Reader_take_number G hr T.B_Reader_take_number .nil pass0))
    (pss_cons (ps_set (i := 2) sc_Reader_take_row.nd rfl (Or.inl rfl) (pe_slice sl_list (pe_fld (pv 0) rfl) (po_some (pe_fld (pv 0) rfl)) (po_some (pe_op op_add (pe_fld (pv 0) rfl) (pv 1)))))
    (pss_cons (ps_fld (pv 0) (pe_op op_add (pe_fld (pv 0) rfl) (pv 1)) rfl)
    (pss_one (ps_ret (pv 2))))), ?_⟩)
  · obtain ⟨r, c, i, l, x, t, rfl, _⟩ := h
    rfl
  · obtain ⟨r, c, i, l, x, t, rfl, ⟨dx, e⟩, hc, hl, q⟩ := h
    obtain ⟨h1, h2⟩ := drop_head hl
    refine ⟨_, rfl, r, dx, _, rfl, e, lk_no nRead rfl (by decide +kernel), r, c, i, l, _, rfl, ⟨dx, e⟩, hc, h1, fun H1 ⟨d1, e1⟩ k1 => ?_⟩
    have hc1 := src_ins hc e k1
    refine ⟨_, rfl, _, _, d1, _, _, rfl, e1, T.cl_Reader, T.no_Reader_calls, rF_calls _ _, _, rfl, _, _, d1, _, _, rfl, e1, T.cl_Reader, T.no_Reader_at, rF_at _ _, _, rfl,
      _, rfl, _, _, d1, _, _, rfl, e1, T.cl_Reader, T.no_Reader_at, rF_at _ _, _, rfl, _, _, rfl, rfl, _, rfl, c, _, rfl, hc1, fun p np => ?_⟩
    have ec : cutV (intsV l) (some ((i + 1 : Nat) : Int)) (some (((i + 1 : Nat) : Int) + (x.length : Int))) = intsV x := by
      rw [← Int.natCast_add, intsV_cut, h2, Nat.add_sub_cancel_left, List.take_left]
    have k2 : Kept [] H1 (upd H1 p (.lst (cutV (intsV l) (some ((i + 1 : Nat) : Int)) (some (((i + 1 : Nat) : Int) + (x.length : Int)))))) := Kept.new np
    have ep : upd H1 p (.lst (cutV (intsV l) (some ((i + 1 : Nat) : Int)) (some (((i + 1 : Nat) : Int) + (x.length : Int))))) p = some (.lst (intsV x)) := by
      rw [upd_same, ec]
    have e2 := k2.at0 e1
    generalize upd H1 p (.lst (cutV (intsV l) (some ((i + 1 : Nat) : Int)) (some (((i + 1 : Nat) : Int) + (x.length : Int))))) = H2 at k2 ep e2
    refine ⟨_, rfl, _, _, d1, _, _, rfl, e2, T.cl_Reader, T.no_Reader_at, rF_at _ _, _, rfl, _, _, rfl, rfl, _, rfl, r, _, d1, _, rfl, e2, T.cl_Reader, T.no_Reader_at, (by show 2 < 1000; decide), ?_⟩
    have npr : p ≠ r := fun z => by
      subst z
      rw [e1] at np
      cases np
    refine ⟨_, rfl, q _ p ⟨d1, ins_put (rF_pat c (i + 1) (i + 1 + x.length))⟩ ((k1.trans k2.any).trans (Kept.put (List.mem_singleton.mpr rfl))) (k1.free (no1 npr) np) ?_⟩
    rw [upd_ne npr]
    exact ep
/-- rows, each with its length ahead -/
def rowsEnc (rs : List (List Int)) : List Int := rs.flatMap fun x => (x.length : Int) :: x
/-- the addresses of rows that stand as new lists -/
def RowsAt (H0 H : Hp) (ps : List Addr) (rs : List (List Int)) : Prop := ps.length = rs.length ∧ ∀ (j : Nat) (x : List Int), rs[j]? = some x → ∃ p, ps[j]? = some p ∧ H0 p = none ∧ H p = some (.lst (intsV x))
theorem RowsAt.kept {H0 H H' : Hp} {ps : List Addr} {rs : List (List Int)} {ex : List Addr} (h : RowsAt H0 H ps rs) (k : Kept ex H H') (n : ∀ p ∈ ps, p ∉ ex) : RowsAt H0 H' ps rs := ⟨h.1, fun j x q => by
  obtain ⟨p, h1, h2, h3⟩ := h.2 j x q
  exact ⟨p, h1, h2, k _ _ h3 (n p (List.mem_of_getElem? h1))⟩⟩
theorem RowsAt.snoc {H0 H : Hp} {ps : List Addr} {rs : List (List Int)} (h : RowsAt H0 H ps rs) {p : Addr} {x : List Int} (n : H0 p = none) (e : H p = some (.lst (intsV x))) : RowsAt H0 H (ps ++ [p]) (rs ++ [x]) := by
  refine ⟨by rw [List.length_append, List.length_append, h.1]; rfl, fun j y q => ?_⟩
  by_cases c : j < rs.length
  · rw [List.getElem?_append_left c] at q
    rw [List.getElem?_append_left (by rw [h.1]; exact c)]
    exact h.2 j y q
  · rw [List.getElem?_append_right (by omega)] at q
    rw [List.getElem?_append_right (by rw [h.1]; omega), h.1]
    cases e0 : j - rs.length with
    | zero =>
      rw [e0] at q
      have : x = y := Option.some.inj q
      subst this
      exact ⟨p, rfl, n, e⟩
    | succ n =>
      rw [e0] at q
      cases q
/-- which numbers and rows a call has, by its number -/
def shp : List (List Int) := [[2, 1], [1, 0], [0, 1], [0, 1], [1, 0], [1, 0], [0, 0]]
def spTakeArgs (K : PySem.W.Frag) (A : Ad) : Sp := fun vs H Q _ => ∃ (r c : Addr) (i op : Nat) (l xs t : List Int) (rs : List (List Int)), vs = [.ref r, nI op] ∧ RdAt A H r c i ∧ SqL K H c (intsV l) ∧ l.drop i = xs ++ (rowsEnc rs ++ t) ∧
  shp[op]? = some [(xs.length : Int), (rs.length : Int)] ∧ xs.length ≤ 100 ∧ rs.length ≤ 100 ∧
  ∀ H' p ps, RdAt A H' r c (i + xs.length + (rowsEnc rs).length) → Kept [r] H H' → H p = none → H' p = some (.lst (intsV xs ++ ps.map V.ref)) → RowsAt H H' ps rs → Q (.ref p) H'
end
end LD

set_option maxRecDepth 100000
set_option maxHeartbeats 4000000
namespace LD
open PySem PySem.Spec PyProof.Rows L2
open PySem.W (Codec)
section
variable {P : Program} {w : World} {K : PySem.W.Frag} {mg : Str → Option Value} {base : Heap} {A : Ad}
theorem rowsEnc_app (a b : List (List Int)) : rowsEnc (a ++ b) = rowsEnc a ++ rowsEnc b := List.flatMap_append ..
theorem rowsEnc_one (x : List Int) : rowsEnc [x] = (x.length : Int) :: x := by
  show ((x.length : Int) :: x) ++ [] = _
  rw [List.append_nil]
theorem take_succ_at {α : Type} {l : List α} {i : Nat} {x : α} (h : l[i]? = some x) : l.take (i + 1) = l.take i ++ [x] := by
  rw [List.take_succ, h]
  rfl
theorem drop_at {α : Type} {l : List α} {i : Nat} {x : α} (h : l[i]? = some x) : l.drop i = x :: l.drop (i + 1) := by
  obtain ⟨hi, e⟩ := List.getElem?_eq_some_iff.mp h
  rw [List.drop_eq_getElem_cons hi, e]
/-- ahead of the j-th row -/
theorem row_here {l xs t : List Int} {rs : List (List Int)} {i j : Nat} {x : List Int} (h : l.drop i = xs ++ (rowsEnc rs ++ t)) (hx : rs[j]? = some x) :
    l.drop (i + xs.length + (rowsEnc (rs.take j)).length) = (x.length : Int) :: (x ++ (rowsEnc (rs.drop (j + 1)) ++ t)) := by
  have e : rs = rs.take j ++ ([x] ++ rs.drop (j + 1)) := by
    conv => lhs; rw [← List.take_append_drop j rs, drop_at hx]
    rfl
  have e2 : rowsEnc rs = rowsEnc (rs.take j) ++ ((x.length : Int) :: (x ++ rowsEnc (rs.drop (j + 1)))) := by
    conv => lhs; rw [e]
    rw [rowsEnc_app, rowsEnc_app, rowsEnc_one]
    rfl
  rw [← List.drop_drop, ← List.drop_drop, h, List.drop_left, e2, List.append_assoc, List.drop_left]
  show _ :: ((x ++ _) ++ t) = _
  rw [List.append_assoc]
theorem shp_small {op : Nat} {n k : Int} (h : shp[op]? = some [n, k]) : n ≤ 100 ∧ k ≤ 100 := by
  unfold shp at h
  match op, h with
  | 0, h => injection h with h; injection h with h1 h; injection h with h2; omega
  | 1, h => injection h with h; injection h with h1 h; injection h with h2; omega
  | 2, h => injection h with h; injection h with h1 h; injection h with h2; omega
  | 3, h => injection h with h; injection h with h1 h; injection h with h2; omega
  | 4, h => injection h with h; injection h with h1 h; injection h with h2; omega
  | 5, h => injection h with h; injection h with h1 h; injection h with h2; omega
  | 6, h => injection h with h; injection h with h1 h; injection h with h2; omega
  | n + 7, h => cases h
theorem ok_take_arguments (T : Txt K mg A) (hS : ∃ a, mg "SHAPES" = some (.ref a) ∧ TupOf K a shp) : FnOk P w K mg base CX0 3 A.f_Reader_take_arguments A.d_Reader_take_arguments P_Reader_take_arguments (spTakeArgs K A) := by
  have GN : FnOk P w K mg base CX0 1 A.f_Reader_take_number A.d_Reader_take_number P_Reader_take_number (spTakeNum K A) := ok_take_number T
  have GR : FnOk P w K mg base CX0 2 A.f_Reader_take_row A.d_Reader_take_row P_Reader_take_row (spTakeRow K A) := ok_take_row T
  obtain ⟨aS, eS, as, lS, sS, iS⟩ := hS
  refine T.F_Reader_take_arguments.ok sc_Reader_take_arguments (fun vs H Q E h => ?_) (fun cdv Ar outer s H vs Q E hr h => ⟨_,
    pss_cons (ps_set (i := 2) sc_Reader_take_arguments.nd rfl (Or.inl rfl) (pe_ix ix_tup (pe_glob (v := .ref aS) rfl eS rfl) (pv 1) (fun _ _ => rfl)))
    (pss_cons (ps_set (i := 3) sc_Reader_take_arguments.nd rfl (Or.inl rfl) (pe_lst pa_nil))
    (pss_cons (ps_for PassesOwn.never rfl (pi_range1 rfl T.b_range (pa_cons (pe_ix ix_tup (pv 2) pe_int (fun _ _ => rfl)) pa_nil)) (pg_name (i := 4) sc_Reader_take_arguments.nd rfl (Or.inl rfl))
      (pss_one (ps_expr (pe_bm PySem.F.plainAttrs_list PySem.F.slot_list_append PySem.F.type_list_append mt_append (pv 3) (pa_cons (pe_meth0 (pv 0) T.cl_Reader T.M_Reader_take_number GN (hr.mono (by decide)) T.B_Reader_take_number .nil pass0) pa_nil)))))
    (pss_cons (ps_for PassesOwn.never rfl (pi_range1 rfl T.b_range (pa_cons (pe_ix ix_tup (pv 2) pe_int (fun _ _ => rfl)) pa_nil)) (pg_name (i := 4) sc_Reader_take_arguments.nd rfl (Or.inl rfl))
      (pss_one (ps_expr (pe_bm PySem.F.plainAttrs_list PySem.F.slot_list_append PySem.F.type_list_append mt_append (pv 3) (pa_cons (pe_meth0 (pv 0) T.cl_Reader T.M_Reader_take_row GR hr T.B_Reader_take_row .nil pass0) pa_nil)))))
    (pss_one (ps_ret (pv 3)))))), ?_⟩)
  · obtain ⟨r, c, i, op, l, xs, t, rs, rfl, _⟩ := h
    rfl
  · obtain ⟨r, c, i, op, l, xs, t, rs, rfl, ⟨dx, e⟩, hc, hl, hs, hx100, hr100, q⟩ := h
    have hop : op < as.length := by
      rw [lS]
      exact (List.getElem?_eq_some_iff.mp hs).1
    have hrow := iS op _ (as[op]) hs (List.getElem?_eq_getElem hop)
    refine ⟨_, rfl, aS, _, _, _, rfl, rfl, sS H, atI_nat (by rw [List.getElem?_map, List.getElem?_eq_getElem hop]; rfl), ?_⟩
    refine ⟨(by show 0 ≤ sizeLine; decide), fun p hp => ?_⟩
    have hpr : p ≠ r := fun z => by
      subst z
      rw [e] at hp
      cases hp
    refine ⟨_, rfl, _, _, _, _, rfl, rfl, hrow _, atI_nat (j := 0) rfl, (xs.length : Int), rfl, by omega, by omega, ?_⟩
    refine for_range (lo := 0) (n := (xs.length : Int).toNat) (fun j σ H' => (∃ v, σ = [some (.ref r), some (nI op), some (.ref as[op]), some (.ref p), v]) ∧ RdAt A H' r c (i + j) ∧ Kept [r] H H' ∧ H' p = some (.lst (intsV (xs.take j)))) ?_ ?_ ?_
    · exact ⟨⟨none, rfl⟩, ⟨dx, (Kept.new (ex := []) hp).at0 e⟩, Kept.new hp, upd_same⟩
    · rintro j σ H' hj ⟨⟨v, rfl⟩, ⟨d1, e1⟩, k1, p1⟩
      rw [Int.toNat_natCast] at hj
      have hz : l[i + j]? = some (xs[j]'hj) := by
        rw [← List.getElem?_drop, hl, List.getElem?_append_left hj, List.getElem?_eq_getElem hj]
      refine ⟨_, rfl, .inl ⟨rfl, _, SqL.of p1⟩, _, rfl, r, d1, _, rfl, e1, lk_no nRead rfl (by decide +kernel), r, c, i + j, l, _, rfl, ⟨d1, e1⟩, src_ins hc e k1, hz, fun H2 ⟨d2, e2⟩ k2 => ?_⟩
      have p2 := k2.at p1 (no1 hpr)
      refine ⟨p, _, _, rfl, rfl, p2, small1000 (by unfold intsV; rw [List.length_map, List.length_take]; omega), ⟨_, rfl⟩, ⟨d2, ?_⟩, ?_, ?_⟩
      · rw [upd_ne hpr.symm]
        exact e2
      · exact Kept.drop (p := p) (((k1.trans k2).mono fun y z => List.mem_cons_of_mem _ z).trans (Kept.put (List.mem_cons_self ..))) hp
      · rw [upd_same, take_succ_at (List.getElem?_eq_getElem hj)]
        unfold intsV
        rw [List.map_append]
        rfl
    · rintro σ H1 ⟨⟨v, rfl⟩, R1, k1, p1⟩
      rw [Int.toNat_natCast] at R1 p1
      rw [List.take_length] at p1
      refine ⟨_, rfl, _, _, _, _, rfl, rfl, hrow _, atI_nat (j := 1) rfl, (rs.length : Int), rfl, by omega, by omega, ?_⟩
      refine for_range (lo := 0) (n := (rs.length : Int).toNat) (fun j σ H' => ∃ ps, (∃ v, σ = [some (.ref r), some (nI op), some (.ref as[op]), some (.ref p), v]) ∧ RdAt A H' r c (i + xs.length + (rowsEnc (rs.take j)).length) ∧ Kept [r] H H' ∧ H' p = some (.lst (intsV xs ++ ps.map V.ref)) ∧ RowsAt H H' ps (rs.take j) ∧ ∀ y ∈ ps, y ≠ p) ?_ ?_ ?_
      · refine ⟨[], ⟨v, rfl⟩, R1, k1, ?_, ⟨rfl, fun j x z => ?_⟩, fun _ z => nomatch z⟩
        · rw [List.map_nil, List.append_nil]
          exact p1
        · rw [List.take_zero] at z
          cases z
      · rintro j σ H' hj ⟨ps, ⟨v, rfl⟩, ⟨d3, e3⟩, k3, p3, rw3, np3⟩
        rw [Int.toNat_natCast] at hj
        have hx : rs[j]? = some (rs[j]'hj) := List.getElem?_eq_getElem hj
        refine ⟨_, rfl, .inl ⟨rfl, _, SqL.of p3⟩, _, rfl, r, d3, _, rfl, e3, lk_no nRead rfl (by decide +kernel), r, c, _, l, _, _, rfl, ⟨d3, e3⟩, src_ins hc e k3, row_here hl hx, fun H4 y ⟨d4, e4⟩ k4 ny ey => ?_⟩
        have p4 := k4.at p3 (no1 hpr)
        have hyr : y ≠ r := fun z => by
          subst z
          rw [e3] at ny
          cases ny
        have hyp : y ≠ p := fun z => by
          subst z
          rw [p3] at ny
          cases ny
        have hyH : H y = none := k3.free (no1 hyr) ny
        have psr : ∀ z ∈ ps, z ≠ r := fun z hz q => by
          subst q
          obtain ⟨n, hn⟩ := List.mem_iff_getElem?.mp hz
          have hn2 : n < (rs.take j).length := by
            rw [← rw3.1]
            exact (List.getElem?_eq_some_iff.mp hn).1
          obtain ⟨p', h1, h2, _⟩ := rw3.2 n _ (List.getElem?_eq_getElem hn2)
          rw [hn] at h1
          have := Option.some.inj h1
          subst this
          rw [e] at h2
          cases h2
        refine ⟨p, _, _, rfl, rfl, p4, ?_, ps ++ [y], ⟨_, rfl⟩, ⟨d4, ?_⟩, ?_, ?_, ?_, ?_⟩
        · refine small1000 ?_
          rw [List.length_append, List.length_map, rw3.1, List.length_take]
          unfold intsV
          rw [List.length_map]
          omega
        · rw [upd_ne hpr.symm, e4, take_succ_at hx, rowsEnc_app, rowsEnc_one, List.length_append, List.length_cons]
          rw [show i + xs.length + ((rowsEnc (rs.take j)).length + ((rs[j]'hj).length + 1)) = i + xs.length + (rowsEnc (rs.take j)).length + 1 + (rs[j]'hj).length by omega]
        · exact Kept.drop (p := p) (((k3.trans k4).mono fun y z => List.mem_cons_of_mem _ z).trans (Kept.put (List.mem_cons_self ..))) hp
        · rw [upd_same, List.map_append, ← List.append_assoc]
          rfl
        · rw [take_succ_at hx]
          have k5 : Kept [p] H4 (upd H4 p (.lst ((intsV xs ++ ps.map V.ref) ++ [V.ref y]))) := Kept.put (List.mem_singleton.mpr rfl)
          refine RowsAt.snoc ((rw3.kept k4 fun z hz => no1 (psr z hz)).kept k5 fun z hz => no1 (np3 z hz)) hyH ?_
          rw [upd_ne hyp]
          exact ey
        · intro z hz
          rcases List.mem_append.mp hz with hz | hz
          · exact np3 z hz
          · rw [List.mem_singleton.mp hz]
            exact hyp
      · rintro σ H' ⟨ps, ⟨v, rfl⟩, R3, k3, p3, rw3, np3⟩
        rw [Int.toNat_natCast] at R3 rw3
        rw [List.take_length] at R3 rw3
        exact ⟨_, rfl, q H' p ps R3 k3 hp p3 rw3⟩
end
end LD

set_option maxRecDepth 100000
set_option maxHeartbeats 4000000
namespace LD
open PySem PySem.Spec PyProof.Rows L2
open PySem.W (Codec)
/-! ### the desk -/
section
open Ks346 (Abs)
variable {P : Program} {w : World} {K : PySem.W.Frag} {mg : Str → Option Value} {base : Heap} {A : Ad}
def kF (v : V) : List (Str × V) := [("door", v)]
def DeskAt (A : Ad) (H : Hp) (k : Addr) (v : V) : Prop := ∃ dx, H k = some (.ins A.C_Desk dx (kF v))
theorem kF_door (v : V) : (kF v).lookup ("door" : Str) = some v := lk_ix 0 ["door"] rfl (by decide +kernel) rfl
theorem kF_pdoor (v u : V) : putF "door" u (kF v) = kF u := (put_ix 0 ["door"] rfl (by decide +kernel)).trans rfl
theorem ki0 (y0 : V) : putF "door" y0 ([] : List (Str × V)) = kF y0 := put_end [] rfl (by decide +kernel)
def spDeskInit (A : Ad) : Sp := fun vs H Q _ => ∃ (p dx : Addr), vs = [.ref p] ∧ H p = some (.ins A.C_Desk dx []) ∧ ∀ H', DeskAt A H' p .non → Kept [p] H H' → Q .non H'
theorem ok_Desk_init (T : Txt K mg A) : FnOk P w K mg base CX0 1 A.f_Desk_init A.d_Desk_init P_Desk_init (spDeskInit A) := by
  refine T.F_Desk_init.ok sc_Desk_init (fun vs H Q E h => ?_) (fun cdv Ar outer s H vs Q E hr h => ⟨_, pss_one (ps_fld (pv 0) pe_non rfl), ?_⟩)
  · obtain ⟨p, dx, rfl, _⟩ := h
    rfl
  · obtain ⟨p, dx, rfl, hp, q⟩ := h
    refine ⟨_, rfl, p, _, dx, _, rfl, hp, T.cl_Desk, T.no_Desk_door, (by show 0 < 1000; decide), ?_⟩
    exact q _ ⟨dx, ins_put (ki0 _)⟩ (Kept.put (List.mem_singleton.mpr rfl))
/-- a new list of these numbers -/
def spBegin (A : Ad) : Sp := fun vs H Q _ => ∃ (k y : Addr) (v : V) (key : List Nat) (r z : Nat), vs = [.ref k, nI r, nI z, .ref y] ∧ DeskAt A H k v ∧ H y = some (.lst (nums key)) ∧
  (mayBegin key r z = false → ∀ H' p, Kept [] H H' → H p = none → H' p = some (.lst [.int (-22)]) → Q (.ref p) H') ∧
  (mayBegin key r z = true → ∀ H' p d b, DeskAt A H' k (.ref d) → DoorAt A H' d y b (newDoor key r z) → H d = none → H b = none → Kept [k] H H' → H p = none → H' p = some (.lst [.int 0]) → Q (.ref p) H')
theorem ok_begin (T : Txt K mg A) : FnOk P w K mg base CX0 3 A.f_Desk_begin A.d_Desk_begin P_Desk_begin (spBegin A) := by
  have GM : FnOk P w K mg base CX0 1 A.f_may_begin A.d_may_begin P_may_begin (spMay K) := ok_may_begin T
  have GI : FnOk P w K mg base CX0 1 A.f_Door_init A.d_Door_init P_Door_init (spDoorInit A) := ok_Door_init T
  refine T.F_Desk_begin.ok sc_Desk_begin (fun vs H Q E h => ?_) (fun cdv Ar outer s H vs Q E hr h => ⟨_,
    pss_cons (ps_if (pt_not (pt_val (pe_call GM (hr.mono (by decide)) rfl T.g_may_begin T.F_may_begin.kp T.B_may_begin .nil pass0 (pa_cons (pv 1) (pa_cons (pv 2) (pa_cons (pv 3) pa_nil)))))) (pss_one (ps_ret (pe_lst (pa_cons (pe_const T.k_WRONG_VALUE) pa_nil)))) pss_nil)
    (pss_cons (ps_fld (pv 0) (pe_make T.mk_Door GI hr rfl T.gc_Door T.B_Door_init .nil pass0 (pa_cons (pv 1) (pa_cons (pv 2) (pa_cons (pv 3) pa_nil)))) rfl)
    (pss_one (ps_ret (pe_lst (pa_cons (pe_const T.k_DONE) pa_nil))))), ?_⟩)
  · obtain ⟨k, y, v, key, r, z, rfl, _⟩ := h
    rfl
  · obtain ⟨k, y, v, key, r, z, rfl, ⟨dx, e⟩, hy, q1, q2⟩ := h
    refine ⟨_, rfl, _, rfl, _, rfl, r, z, y, key, rfl, SqL.of hy, _, rfl, ?_⟩
    cases hm : mayBegin key r z with
    | false => exact if_true_of rfl ⟨(by show 1 ≤ sizeLine; decide), fun p hp => q1 hm _ p (Kept.new hp) hp upd_same⟩
    | true =>
      refine if_false_of rfl ⟨_, rfl, _, rfl, _, rfl, fun d dd nd ndd ne => ?_⟩
      have kn : Kept [] H (upd (upd H dd (.own d)) d (.ins A.C_Door dd [])) := (Kept.new ndd).trans (Kept.new (by rw [upd_ne ne.symm]; exact nd))
      refine ⟨d, dd, y, key, r, z, rfl, upd_same, kn.at0 hy, fun H1 b D1 nb k1 => ⟨rfl, ?_⟩⟩
      have k01 : Kept [] H H1 := Kept.made nd ndd k1
      have e1 := k01.at0 e
      refine ⟨_, rfl, k, _, dx, _, rfl, e1, T.cl_Desk, T.no_Desk_door, (by show 1 < 1000; decide), ?_⟩
      have k2 : Kept [k] H1 (upd H1 k (.ins A.C_Desk dx (putF "door" (.ref d) (kF v)))) := Kept.put (List.mem_singleton.mpr rfl)
      have hdk : d ≠ k := fun z => by
        subst z
        rw [e] at nd
        cases nd
      have hbk : b ≠ k := fun z => by
        subst z
        obtain ⟨_, _, _, _, z, _⟩ := D1
        rw [e1] at z
        cases z
      have hyk : y ≠ k := ne_of hy e fun z => nomatch z
      have D2 : DoorAt A (upd H1 k (.ins A.C_Desk dx (putF "door" (.ref d) (kF v)))) d y b (newDoor key r z) := D1.kept k2 (no1 hdk) (no1 hyk) (no1 hbk) (fun x xs hx => by
        rw [List.mem_singleton.mp hx, e1]
        intro z
        cases z)
      have E2 : DeskAt A (upd H1 k (.ins A.C_Desk dx (putF "door" (.ref d) (kF v)))) k (.ref d) := ⟨dx, ins_put (kF_pdoor _ _)⟩
      generalize upd H1 k (.ins A.C_Desk dx (putF "door" (.ref d) (kF v))) = H2 at k2 D2 E2
      refine ⟨(by show 1 ≤ sizeLine; decide), fun p hp => ?_⟩
      have k3 : Kept [] H2 (upd H2 p (.lst [.int 0])) := Kept.new hp
      have hpk : p ≠ k := fun z => by
        subst z
        obtain ⟨_, z⟩ := E2
        rw [z] at hp
        cases hp
      have nbH : H b = none := kn.free0 nb
      obtain ⟨dy, E3⟩ := E2
      exact q2 hm _ p d b ⟨dy, k3.at0 E3⟩ (D2.kept0 k3) nd nbH ((k01.any.trans k2).trans k3.any) (k01.free0 (k2.free (no1 hpk) hp)) upd_same
end
end LD

set_option maxRecDepth 100000
set_option maxHeartbeats 4000000
namespace LD
open PySem PySem.Spec PyProof.Rows L2
open PySem.W (Codec)
/-! ### the bolt, the book's entry, the state -/
section
open Ks346 (Abs)
variable {P : Program} {w : World} {K : PySem.W.Frag} {mg : Str → Option Value} {base : Heap} {A : Ad}
def setBolt (a : Abs) (n : Nat) : Abs × Int := if 1 < n then (a, -22) else ({ a with bolted := decide (n = 1) }, 0)
def spSetBolt (A : Ad) : Sp := fun vs H Q _ => ∃ (d k b : Addr) (a : Abs) (n : Nat), vs = [.ref d, nI n] ∧ DoorAt A H d k b a ∧
  ∀ H', DoorAt A H' d k b (setBolt a n).1 → Kept [d] H H' → Q (.int (setBolt a n).2) H'
theorem ok_set_bolt (T : Txt K mg A) : FnOk P w K mg base CX0 1 A.f_Door_set_bolt A.d_Door_set_bolt P_Door_set_bolt (spSetBolt A) := by
  refine T.F_Door_set_bolt.ok sc_Door_set_bolt (fun vs H Q E h => ?_) (fun cdv Ar outer s H vs Q E hr h => ⟨_,
    pss_cons (ps_if (pt_cmp (pc_gt (pv 1) pe_int)) (pss_one (ps_ret (pe_const T.k_WRONG_VALUE))) pss_nil)
    (pss_cons (ps_fld (pv 0) (pe_cmp (pc_eqI (pv 1) pe_int)) rfl) (pss_one (ps_ret (pe_const T.k_DONE)))), ?_⟩)
  · obtain ⟨d, k, b, a, n, rfl, _⟩ := h
    rfl
  · obtain ⟨d, k, b, a, n, rfl, hd, q⟩ := h
    obtain ⟨es, ⟨dx, e1⟩, e2, e3, e4, e5⟩ := id hd
    refine ⟨_, rfl, _, _, rfl, rfl, _, rfl, ?_⟩
    have c1 : decide ((1 : Int) < (n : Int)) = decide (1 < n) := lt_dec 1 n
    have c2 : decide ((n : Int) = 1) = decide (n = 1) := int_dec n 1
    unfold setBolt at q
    by_cases h1 : 1 < n
    · rw [if_pos h1] at q
      exact if_true_of (c1.trans (decide_eq_true h1)) (q H hd (Kept.refl _ _))
    · rw [if_neg h1] at q
      refine if_false_of (c1.trans (decide_eq_false h1)) ⟨_, rfl, _, _, rfl, rfl, _, rfl, d, _, dx, _, rfl, e1, T.cl_Door, T.no_Door_bolted, (by show 8 < 1000; decide), ?_⟩
      rw [← c2] at q
      exact q _ (DoorAt.put e1 e2 e3 e4 e5 (dF_pbolted _ _ _ _) rfl rfl) (Kept.put (List.mem_singleton.mpr rfl))
def entryAns (a : Abs) (n : Nat) : List Int := match a.book[n]? with
  | none => [-2]
  | some e => [(e.kind : Int), (e.number : Int), (e.serial : Int), (e.day : Int)]
def spEntry (A : Ad) : Sp := fun vs H Q _ => ∃ (d k b : Addr) (a : Abs) (n : Nat), vs = [.ref d, nI n] ∧ DoorAt A H d k b a ∧
  ∀ p, H p = none → Q (.ref p) (upd H p (.lst (intsV (entryAns a n))))
theorem ok_entry (T : Txt K mg A) : FnOk P w K mg base CX0 1 A.f_Door_entry A.d_Door_entry P_Door_entry (spEntry A) := by
  refine T.F_Door_entry.ok sc_Door_entry (fun vs H Q E h => ?_) (fun cdv Ar outer s H vs Q E hr h => ⟨_,
    pss_cons (ps_if (pt_cmp (pc_ge (pv 1) (pe_callB call_len_seq (by rfl) T.b_len PySem.boot_len (pa_cons (pe_fld (pv 0) rfl) pa_nil)))) (pss_one (ps_ret (pe_lst (pa_cons (pe_const T.k_NO_ENTRY) pa_nil)))) pss_nil)
    (pss_one (ps_ret (pe_callTy call_list_of (by rfl) T.b_list (by decide +kernel) (pa_cons (pe_ix ix_list (pe_fld (pv 0) rfl) (pe_op op_sub (pe_op op_sub (pe_callB call_len_seq (by rfl) T.b_len PySem.boot_len (pa_cons (pe_fld (pv 0) rfl) pa_nil)) pe_int) (pv 1)) (fun _ _ => rfl)) pa_nil)))), ?_⟩)
  · obtain ⟨d, k, b, a, n, rfl, _⟩ := h
    rfl
  · obtain ⟨d, k, b, a, n, rfl, hd, q⟩ := h
    obtain ⟨es, ⟨dx, e1⟩, e2, e3, e4, e5⟩ := id hd
    refine ⟨_, rfl, _, rfl, _, _, dx, _, _, rfl, e1, T.cl_Door, T.no_Door_book, dF_book _ _ _, b, _, rfl, .inl (SqL.of e4), _, _, rfl, rfl, _, rfl, ?_⟩
    have hlen : es.length = a.book.length := by rw [e5.1, List.length_reverse]
    have c1 : decide ((es.length : Int) ≤ (n : Int)) = decide (es.length ≤ n) := le_dec _ _
    unfold entryAns at q
    by_cases h1 : es.length ≤ n
    · rw [List.getElem?_eq_none (by omega)] at q
      exact if_true_of (c1.trans (decide_eq_true h1)) ⟨(by show 1 ≤ sizeLine; decide), fun p hp => q p hp⟩
    · have hn : n < a.book.length := by omega
      have hr' : a.book.reverse[es.length - 1 - n]? = some (a.book[n]'hn) := by
        rw [List.getElem?_reverse (by omega), hlen, show a.book.length - 1 - (a.book.length - 1 - n) = n by omega]
        exact List.getElem?_eq_getElem hn
      rw [List.getElem?_eq_getElem hn] at q
      generalize a.book[n]'hn = e at q hr'
      obtain ⟨t, ht, et⟩ := e5.2 _ _ hr'
      have hi : atI es ((es.length : Int) - 1 - (n : Int)) = some (.ref t) := by
        rw [show (es.length : Int) - 1 - (n : Int) = ((es.length - 1 - n : Nat) : Int) by omega]
        exact atI_nat ht
      refine if_false_of (c1.trans (decide_eq_false h1)) ⟨_, rfl, _, _, dx, _, _, rfl, e1, T.cl_Door, T.no_Door_book, dF_book _ _ _, _, rfl, _, _, dx, _, _, rfl, e1, T.cl_Door, T.no_Door_book, dF_book _ _ _, b, _, rfl, .inl (SqL.of e4), _, _, rfl, rfl, _, rfl, _, _, rfl, rfl, b, es, _, _, rfl, rfl, SqL.of e4, hi, t, _, rfl, .inr (SqT.of et), fun p hp => ?_⟩
      exact q p hp
def stateAns (a : Abs) : List Int := [if a.bolted then 1 else 0, (a.room : Int), (a.zone : Int), (a.day : Int), (a.number : Int), (a.epoch : Int), (a.book.length : Int)]
def spState (A : Ad) : Sp := fun vs H Q _ => ∃ (d k b : Addr) (a : Abs), vs = [.ref d] ∧ DoorAt A H d k b a ∧
  ∀ p, H p = none → Q (.ref p) (upd H p (.lst (intsV (stateAns a))))
theorem ok_state (T : Txt K mg A) : FnOk P w K mg base CX0 1 A.f_Door_state A.d_Door_state P_Door_state (spState A) := by
  refine T.F_Door_state.ok sc_Door_state (fun vs H Q E h => ?_) (fun cdv Ar outer s H vs Q E hr h => ⟨_,
    pss_cons (ps_set (i := 1) sc_Door_state.nd rfl (Or.inl rfl) (pe_ifExp (pt_val (pe_fld (pv 0) rfl)) pe_int pe_int))
    (pss_one (ps_ret (pe_lst (pa_cons (pv 1) (pa_cons (pe_fld (pv 0) rfl) (pa_cons (pe_fld (pv 0) rfl) (pa_cons (pe_fld (pv 0) rfl) (pa_cons (pe_fld (pv 0) rfl) (pa_cons (pe_fld (pv 0) rfl)
      (pa_cons (pe_callB call_len_seq (by rfl) T.b_len PySem.boot_len (pa_cons (pe_fld (pv 0) rfl) pa_nil)) pa_nil)))))))))), ?_⟩)
  · obtain ⟨d, k, b, a, rfl, _⟩ := h
    rfl
  · obtain ⟨d, k, b, a, rfl, hd, q⟩ := h
    obtain ⟨es, ⟨dx, e1⟩, e2, e3, e4, e5⟩ := id hd
    have hlen : es.length = a.book.length := by rw [e5.1, List.length_reverse]
    have q' : ∀ z : Int, (if a.bolted then (1 : Int) else 0) = z → ∀ p, H p = none → Q (.ref p) (upd H p (.lst [.int z, nI a.room, nI a.zone, nI a.day, nI a.number, nI a.epoch, .int (es.length : Int)])) := fun z hz p hp => by
      rw [← hz, hlen]
      exact q p hp
    refine ⟨_, rfl, _, _, dx, _, _, rfl, e1, T.cl_Door, T.no_Door_bolted, dF_bolted _ _ _, _, rfl, ?_⟩
    cases hb : a.bolted with
    | true =>
      refine if_true_of rfl ⟨_, rfl, _, rfl, _, _, dx, _, _, rfl, e1, T.cl_Door, T.no_Door_room, dF_room _ _ _, _, rfl, _, _, dx, _, _, rfl, e1, T.cl_Door, T.no_Door_zone, dF_zone _ _ _,
        _, rfl, _, _, dx, _, _, rfl, e1, T.cl_Door, T.no_Door_day, dF_day _ _ _, _, rfl, _, _, dx, _, _, rfl, e1, T.cl_Door, T.no_Door_learned_number, dF_number _ _ _, _, rfl, _, _, dx, _, _, rfl, e1, T.cl_Door, T.no_Door_learned_round, dF_epoch _ _ _,
        _, rfl, _, _, dx, _, _, rfl, e1, T.cl_Door, T.no_Door_book, dF_book _ _ _, b, _, rfl, .inl (SqL.of e4), (by show 7 ≤ sizeLine; decide), fun p hp => q' 1 (by rw [hb]; rfl) p hp⟩
    | false =>
      refine if_false_of rfl ⟨_, rfl, _, rfl, _, _, dx, _, _, rfl, e1, T.cl_Door, T.no_Door_room, dF_room _ _ _, _, rfl, _, _, dx, _, _, rfl, e1, T.cl_Door, T.no_Door_zone, dF_zone _ _ _,
        _, rfl, _, _, dx, _, _, rfl, e1, T.cl_Door, T.no_Door_day, dF_day _ _ _, _, rfl, _, _, dx, _, _, rfl, e1, T.cl_Door, T.no_Door_learned_number, dF_number _ _ _, _, rfl, _, _, dx, _, _, rfl, e1, T.cl_Door, T.no_Door_learned_round, dF_epoch _ _ _,
        _, rfl, _, _, dx, _, _, rfl, e1, T.cl_Door, T.no_Door_book, dF_book _ _ _, b, _, rfl, .inl (SqL.of e4), (by show 7 ≤ sizeLine; decide), fun p hp => q' 0 (by rw [hb]; rfl) p hp⟩
end
end LD

set_option maxRecDepth 100000
set_option maxHeartbeats 4000000
namespace LD
open PySem PySem.Spec PyProof.Rows L2
open PySem.W (Codec)
/-! ### one call, and the loop over the calls -/
section
open Ks346 (Abs Call)
variable {P : Program} {w : World} {K : PySem.W.Frag} {mg : Str → Option Value} {base : Heap} {A : Ad}
def opOf : Call → Nat
  | .begin _ _ _ => 0
  | .day _ => 1
  | .open_ _ => 2
  | .would _ => 3
  | .bolt _ => 4
  | .book _ => 5
  | .state => 6
def xsOf : Call → List Int
  | .begin _ r z => [(r : Int), (z : Int)]
  | .day d => [(d : Int)]
  | .bolt v => [(v : Int)]
  | .book k => [(k : Int)]
  | _ => []
def rsOf : Call → List (List Int)
  | .begin k _ _ => [intL k]
  | .open_ b => [intL b]
  | .would b => [intL b]
  | _ => []
theorem enc_is (c : Call) : enc c = (opOf c : Int) :: (xsOf c ++ rowsEnc (rsOf c)) := by
  cases c with
  | begin k r z =>
    show 0 :: (r : Int) :: (z : Int) :: (k.length : Int) :: intL k = 0 :: (r : Int) :: (z : Int) :: rowsEnc [intL k]
    rw [rowsEnc_one, ints_len]
  | open_ b =>
    show 2 :: (b.length : Int) :: intL b = 2 :: rowsEnc [intL b]
    rw [rowsEnc_one, ints_len]
  | would b =>
    show 3 :: (b.length : Int) :: intL b = 3 :: rowsEnc [intL b]
    rw [rowsEnc_one, ints_len]
  | day d => rfl
  | bolt v => rfl
  | book k => rfl
  | state => rfl
theorem shp_of (c : Call) : shp[opOf c]? = some [((xsOf c).length : Int), ((rsOf c).length : Int)] := by
  cases c <;> rfl
theorem xs_small (c : Call) : (xsOf c).length ≤ 100 ∧ (rsOf c).length ≤ 100 := by
  cases c <;> exact ⟨by show _ ≤ 100; simp only [xsOf, List.length_cons, List.length_nil]; omega, by show _ ≤ 100; simp only [rsOf, List.length_cons, List.length_nil]; omega⟩
/-- a door: its object, its key's list, its book's list -/
abbrev Dr := Option (Addr × Addr × Addr)
def StAt (A : Ad) (H : Hp) (kd : Addr) (o : Dr) (a : Abs) : Prop := match o with
  | none => DeskAt A H kd .non ∧ a = {}
  | some (d, y, b) => DeskAt A H kd (.ref d) ∧ DoorAt A H d y b a ∧ Good a
def exOf (kd : Addr) : Dr → List Addr
  | none => [kd]
  | some (d, _, b) => [kd, d, b]
def bkOf : Dr → List Addr
  | none => []
  | some (_, _, b) => [b]
theorem StAt.desk {H : Hp} {kd : Addr} {o : Dr} {a : Abs} (h : StAt A H kd o a) : ∃ v, DeskAt A H kd v := by
  cases o with
  | none => exact ⟨_, h.1⟩
  | some p => exact ⟨_, h.1⟩
theorem StAt.kept {H H' : Hp} {kd : Addr} {o : Dr} {a : Abs} {ex : List Addr} (h : StAt A H kd o a) (k : Kept ex H H') (hk : kd ∉ ex) (ho : ∀ d y b, o = some (d, y, b) → d ∉ ex ∧ y ∉ ex ∧ b ∉ ex) (ht : ∀ x xs, x ∈ ex → H x ≠ some (.tup xs)) : StAt A H' kd o a := by
  cases o with
  | none =>
    obtain ⟨⟨dx, e⟩, q⟩ := h
    exact ⟨⟨dx, k.at e hk⟩, q⟩
  | some p =>
    obtain ⟨d, y, b⟩ := p
    obtain ⟨⟨dx, e⟩, D, g⟩ := h
    obtain ⟨h1, h2, h3⟩ := ho d y b rfl
    exact ⟨⟨dx, k.at e hk⟩, D.kept k h1 h2 h3 ht, g⟩
theorem StAt.kept0 {H H' : Hp} {kd : Addr} {o : Dr} {a : Abs} (h : StAt A H kd o a) (k : Kept [] H H') : StAt A H' kd o a :=
  h.kept k (fun z => nomatch z) (fun _ _ _ _ => ⟨(fun z => nomatch z), (fun z => nomatch z), (fun z => nomatch z)⟩) (fun _ _ z => nomatch z)
def spAnswer (A : Ad) : Sp := fun vs H Q _ => ∃ (kd g : Addr) (o : Dr) (a : Abs) (c : Call) (H0 : Hp) (ps : List Addr), vs = [.ref kd, nI (opOf c), .ref g] ∧ StAt A H kd o a ∧ CallOk c ∧
  H g = some (.lst (intsV (xsOf c) ++ ps.map V.ref)) ∧ RowsAt H0 H ps (rsOf c) ∧
  ∀ H' p o', StAt A H' kd o' (Ks346.act a c).1 → (∀ d y b, o' = some (d, y, b) → o = some (d, y, b) ∨ (H d = none ∧ y ∈ ps ∧ H b = none)) → Kept (exOf kd o) H H' → H p = none → H' p = some (.lst (intsV (said (Ks346.act a c).2))) → Q (.ref p) H'
/-- what the calls are read from: either it is tracked and none of these places, or it stands for good -/
def Src (K : PySem.W.Frag) (H : Hp) (a : Addr) (xs : List V) (bs : List Addr) : Prop := (Rd H a (.lst xs) ∧ a ∉ bs) ∨ ∀ H1, SqL K H1 a xs
theorem Src.sq {H : Hp} {a : Addr} {xs : List V} {bs : List Addr} (h : Src K H a xs bs) : SqL K H a xs := by
  rcases h with h | h
  · exact .inl h.1
  · exact h H
theorem Src.of {H : Hp} {a : Addr} {xs : List V} (h : SqL K H a xs) : Src K H a xs [] := by
  rcases h with h | h
  · exact .inl ⟨h, fun z => nomatch z⟩
  · exact .inr fun H1 => .inr h
/-- places that hold no list, or are among bs, may change; new ones may come to bs -/
theorem Src.step {H H1 : Hp} {a : Addr} {xs : List V} {bs bs' ex : List Addr} (h : Src K H a xs bs) (k : Kept ex H H1) (he : ∀ x ∈ ex, x ∈ bs ∨ ∃ C dx fs, H x = some (.ins C dx fs)) (hb : ∀ x ∈ bs', x ∈ bs ∨ H x = none) : Src K H1 a xs bs' := by
  rcases h with ⟨h, n⟩ | h
  · have na : a ∉ ex := fun z => by
      rcases he a z with q | ⟨C, dx, fs, q⟩
      · exact n q
      · rcases h with h | ⟨o, h⟩
        · rw [h] at q
          cases q
        · rw [h] at q
          cases q
    refine .inl ⟨?_, fun z => ?_⟩
    · rcases h with h | ⟨o, h⟩
      · exact .inl (k _ _ h na)
      · exact .inr ⟨o, k _ _ h na⟩
    · rcases hb a z with q | q
      · exact n q
      · rcases h with h | ⟨o, h⟩
        · rw [h] at q
          cases q
        · rw [h] at q
          cases q
  · exact .inr h
/-- instances with unlike attributes stand apart -/
theorem ins_ne {H : Hp} {p q C C' dx dx' : Addr} {fs fs' : List (Str × V)} (e : H p = some (.ins C dx fs)) (e' : H q = some (.ins C' dx' fs')) (n : fs.length ≠ fs'.length) : p ≠ q := fun z => by
  subst z
  rw [e] at e'
  have z := Option.some.inj e'
  injection z with _ _ z
  exact n (congrArg List.length z)
def spAns (K : PySem.W.Frag) : Sp := fun vs H Q _ => ∃ (a : Addr) (ns : List Int), vs = [.ref a] ∧ SqL K H a (ns.map V.int) ∧ ns.length ≤ 31000 ∧ PyKs346.answers_asked ns = true ∧
  ∀ (H' : Hp) (p : Addr), H' p = some (.lst ((PyKs346.answers ns).map V.int)) → Q (.ref p) H'
theorem drop_calls {cs : List Call} {j : Nat} {c : Call} (h : cs[j]? = some c) : (cs.flatMap enc).drop ((cs.take j).flatMap enc).length = enc c ++ (cs.drop (j + 1)).flatMap enc := by
  have e : cs.flatMap enc = (cs.take j).flatMap enc ++ (enc c ++ (cs.drop (j + 1)).flatMap enc) := by
    conv => lhs; rw [← List.take_append_drop j cs, List.flatMap_append, drop_at h, List.flatMap_cons]
  rw [e, List.drop_left]
theorem ok_answers (T : Txt K mg A) (hS : ∃ a, mg "SHAPES" = some (.ref a) ∧ TupOf K a shp) (GA : FnOk P w K mg base CX0 9 A.f_Desk_answer A.d_Desk_answer P_Desk_answer (spAnswer A)) :
    FnOk P w K mg base CX0 12 A.f_answers A.d_answers P_answers (spAns K) := by
  have GRI : FnOk P w K mg base CX0 1 A.f_Reader_init A.d_Reader_init P_Reader_init (spReaderInit A) := ok_Reader_init T
  have GKI : FnOk P w K mg base CX0 1 A.f_Desk_init A.d_Desk_init P_Desk_init (spDeskInit A) := ok_Desk_init T
  have GD : FnOk P w K mg base CX0 1 A.f_Reader_is_done A.d_Reader_is_done P_Reader_is_done (spIsDone K A) := ok_is_done T
  have GN : FnOk P w K mg base CX0 1 A.f_Reader_take_number A.d_Reader_take_number P_Reader_take_number (spTakeNum K A) := ok_take_number T
  have GT : FnOk P w K mg base CX0 3 A.f_Reader_take_arguments A.d_Reader_take_arguments P_Reader_take_arguments (spTakeArgs K A) := ok_take_arguments T hS
  refine FnOk.mono (T.F_answers.ok (k := 9) sc_answers (fun vs H Q E h => ?_) (fun cdv Ar outer s H vs Q E hr h => ⟨_,
    pss_cons (ps_set (i := 1) sc_answers.nd rfl (Or.inl rfl) (pe_make T.mk_Reader GRI (hr.mono (by decide)) rfl T.gc_Reader T.B_Reader_init .nil pass0 (pa_cons (pv 0) pa_nil)))
    (pss_cons (ps_set (i := 2) sc_answers.nd rfl (Or.inl rfl) (pe_make0 T.mk_Desk GKI (hr.mono (by decide)) rfl T.gc_Desk T.B_Desk_init .nil pass0))
    (pss_cons (ps_set (i := 3) sc_answers.nd rfl (Or.inl rfl) (pe_lst pa_nil))
    (pss_cons (ps_while PassesOwn.never (pt_not (pt_val (pe_meth0 (pv 1) T.cl_Reader T.M_Reader_is_done GD (hr.mono (by decide)) T.B_Reader_is_done .nil pass0)))
      (pss_cons (ps_set (i := 4) sc_answers.nd rfl (Or.inl rfl) (pe_meth0 (pv 1) T.cl_Reader T.M_Reader_take_number GN (hr.mono (by decide)) T.B_Reader_take_number .nil pass0))
      (pss_cons (ps_set (i := 5) sc_answers.nd rfl (Or.inl rfl) (pe_meth (pv 2) T.cl_Desk T.M_Desk_answer GA hr T.B_Desk_answer .nil pass0 (pa_cons (pv 4) (pa_cons (pe_meth (pv 1) T.cl_Reader T.M_Reader_take_arguments GT (hr.mono (by decide)) T.B_Reader_take_arguments .nil pass0 (pa_cons (pv 4) pa_nil)) pa_nil))))
      (pss_cons (ps_expr (pe_bm PySem.F.plainAttrs_list PySem.F.slot_list_append PySem.F.type_list_append mt_append (pv 3) (pa_cons (pe_callB call_len_seq (by rfl) T.b_len PySem.boot_len (pa_cons (pv 5) pa_nil)) pa_nil)))
      (pss_one (ps_expr (pe_bm PySem.F.plainAttrs_list PySem.F.slot_list_extend PySem.F.type_list_extend mt_extend (pv 3) (pa_cons (pv 5) pa_nil))))))))
    (pss_one (ps_ret (pv 3)))))), ?_⟩)) (by decide)
  · obtain ⟨a, ns, rfl, _⟩ := h
    rfl
  · obtain ⟨ca, l, rfl, hc, _, hask, q⟩ := h
    obtain ⟨cs, el, hok, hlen, hans⟩ := asked_is hask
    refine ⟨_, rfl, fun r dr nr ndr ner => ?_⟩
    refine ⟨r, dr, ca, rfl, upd_same, fun H1 R1 k1 => ⟨rfl, ?_⟩⟩
    have k01 : Kept [] H H1 := Kept.made nr ndr k1
    refine fun kd dk nk ndk nek => ?_
    refine ⟨kd, dk, rfl, upd_same, fun H2 D2 k2 => ⟨rfl, ?_⟩⟩
    have k12 : Kept [] H1 H2 := Kept.made nk ndk k2
    refine ⟨(by show 0 ≤ sizeLine; decide), fun gv ng => ?_⟩
    have k23 : Kept [] H2 (upd H2 gv (.lst [])) := Kept.new ng
    have hgv : upd H2 gv (.lst []) gv = some (.lst []) := upd_same
    have S2 : Src K (upd H2 gv (.lst [])) ca (intsV l) (gv :: bkOf none) := (Src.step (bs' := []) (Src.of hc) (k01.trans k12) (fun _ z => nomatch z) (fun _ z => nomatch z)).step k23 (fun _ z => nomatch z) (fun x hx => .inr (by rw [List.mem_singleton.mp hx]; exact ng))
    obtain ⟨d1, R1⟩ := R1
    obtain ⟨d2, D2⟩ := D2
    have R3 := (k12.trans k23).at0 R1
    have D3 := k23.at0 D2
    generalize upd H2 gv (.lst []) = H3 at hgv S2 R3 D3
    refine ⟨fun m σ H' => ∃ (j : Nat) (o : Dr), m = cs.length - j ∧ j ≤ cs.length ∧ (∃ v4 v5, σ = [some (.ref ca), some (.ref r), some (.ref kd), some (.ref gv), v4, v5]) ∧ RdAt A H' r ca ((cs.take j).flatMap enc).length ∧
      Src K H' ca (intsV l) (gv :: bkOf o) ∧ StAt A H' kd o (after {} (cs.take j)) ∧ H' gv = some (.lst (intsV (PyFlat.told (runs {} (cs.take j))))) ∧ ∀ d y b, o = some (d, y, b) → gv ≠ y ∧ gv ≠ b,
      ⟨cs.length, 0, none, rfl, Nat.zero_le _, ⟨none, none, rfl⟩, ⟨d1, R3⟩, S2, ⟨⟨d2, D3⟩, rfl⟩, hgv, fun _ _ _ z => nomatch z⟩, ?_⟩
    rintro m σ H ⟨j, o, rfl, hj, ⟨v4, v5, rfl⟩, ⟨dr, eR⟩, sS, D, eG, nO⟩
    refine ⟨_, rfl, r, dr, _, rfl, eR, lk_no nRead rfl (by decide +kernel), r, ca, _, l, rfl, ⟨dr, eR⟩, sS.sq, _, rfl, ?_⟩
    by_cases hjl : j < cs.length
    · have hc' : cs[j]? = some (cs[j]'hjl) := List.getElem?_eq_getElem hjl
      have hcok := hok _ (List.mem_of_getElem? hc')
      generalize cs[j]'hjl = c at hc' hcok
      have hd := drop_calls hc'
      rw [← el, enc_is] at hd
      have hd' : l.drop ((cs.take j).flatMap enc).length = (opOf c : Int) :: (xsOf c ++ (rowsEnc (rsOf c) ++ (cs.drop (j + 1)).flatMap enc)) := by
        rw [hd]
        show _ :: ((xsOf c ++ rowsEnc (rsOf c)) ++ _) = _
        rw [List.append_assoc]
      obtain ⟨hz, hd1⟩ := drop_head hd'
      have hlt : ¬ l.length ≤ ((cs.take j).flatMap enc).length := fun z => by
        rw [List.getElem?_eq_none z] at hz
        cases hz
      refine if_true_of (by rw [decide_eq_false hlt]; rfl) ?_
      have et := take_succ_at hc'
      have ei : ((cs.take (j + 1)).flatMap enc).length = ((cs.take j).flatMap enc).length + 1 + (xsOf c).length + (rowsEnc (rsOf c)).length := by
        rw [et, List.flatMap_append, List.length_append, List.flatMap_cons, List.flatMap_nil, List.append_nil, enc_is, List.length_cons, List.length_append]
        omega
      have ea : after {} (cs.take (j + 1)) = (Ks346.act (after {} (cs.take j)) c).1 := by rw [et, after_app]
      have eT : PyFlat.told (runs {} (cs.take (j + 1))) = PyFlat.told (runs {} (cs.take j)) ++ (((said (Ks346.act (after {} (cs.take j)) c).2).length : Int) :: said (Ks346.act (after {} (cs.take j)) c).2) := by
        rw [et, runs_app, told_app, told_one]
      have hsz : (PyFlat.told (runs {} (cs.take j))).length ≤ 40000 := by
        have := told_len (cs.take j) {}
        rw [List.length_take] at this
        omega
      have hsl := said_len (after {} (cs.take j)) c
      have ob := xs_small c
      generalize after {} (cs.take j) = a at D ea eT hsl
      generalize PyFlat.told (runs {} (cs.take j)) = g0 at eG eT hsz
      generalize ((cs.take j).flatMap enc).length = i0 at eR hd' hz hd1 ei
      refine ⟨_, fun σ' H' z => ⟨cs.length - (j + 1), by omega, z⟩, ?_⟩
      refine ⟨_, rfl, r, dr, _, rfl, eR, lk_no nRead rfl (by decide +kernel), r, ca, i0, l, _, rfl, ⟨dr, eR⟩, sS.sq, hz, fun H1 ⟨d1, R1⟩ k1 => ?_⟩
      have sS1 : Src K H1 ca (intsV l) (gv :: bkOf o) := sS.step k1 (fun x hx => .inr (by rw [List.mem_singleton.mp hx]; exact ⟨_, _, _, eR⟩)) (fun x hx => .inl hx)
      obtain ⟨vD, dd, eD⟩ := D.desk
      have hkr : kd ≠ r := ins_ne eD eR (show (1 : Nat) ≠ 2 by decide)
      refine ⟨_, rfl, kd, dd, _, rfl, k1.at eD (no1 hkr), lk_no ["door"] rfl (by decide +kernel), _, rfl, _, rfl, r, d1, _, rfl, R1, lk_no nRead rfl (by decide +kernel), _, rfl, r, ca, i0 + 1, opOf c, l, xsOf c, _, rsOf c, rfl, ⟨d1, R1⟩, sS1.sq, hd1, shp_of c, ob.1, ob.2, fun H2 g ps R2 k2 ng eg rw2 => ?_⟩
      have k02 := k1.trans k2
      have sS2 : Src K H2 ca (intsV l) (gv :: bkOf o) := sS1.step k2 (fun x hx => .inr (by rw [List.mem_singleton.mp hx]; exact ⟨_, _, _, R1⟩)) (fun x hx => .inl hx)
      have hgr : gv ≠ r := ne_of eG eR fun z => nomatch z
      have eG2 := k02.at eG (no1 hgr)
      have St2 : StAt A H2 kd o a := by
        refine D.kept k02 (no1 hkr) (fun d y b z => ?_) (fun x xs hx => by rw [List.mem_singleton.mp hx, eR]; intro z; cases z)
        subst z
        obtain ⟨_, ⟨es, ⟨_, D1⟩, D2, _, D4, _⟩, _⟩ := D
        exact ⟨no1 (ins_ne D1 eR (show (8 : Nat) ≠ 2 by decide)), no1 (ne_of D2 eR fun z => nomatch z), no1 (ne_of D4 eR fun z => nomatch z)⟩
      obtain ⟨d2, eR2⟩ := R2
      obtain ⟨vD2, dd2, eD2⟩ := St2.desk
      have hgk : gv ≠ kd := ne_of eG2 eD2 fun z => nomatch z
      have gEx : gv ∉ exOf kd o := by
        cases o with
        | none => exact no1 hgk
        | some p =>
          obtain ⟨d, y, b⟩ := p
          obtain ⟨_, ⟨es, ⟨_, D1⟩, _⟩, _⟩ := St2
          exact no3 hgk (ne_of eG2 D1 fun z => nomatch z) (nO d y b rfl).2
      have rEx : r ∉ exOf kd o := by
        cases o with
        | none => exact no1 hkr.symm
        | some p =>
          obtain ⟨d, y, b⟩ := p
          obtain ⟨_, ⟨es, ⟨_, D1⟩, _, _, D4, _⟩, _⟩ := St2
          exact no3 hkr.symm (ins_ne eR2 D1 (show (2 : Nat) ≠ 8 by decide)) (ne_of eR2 D4 fun z => nomatch z)
      have exB : ∀ x ∈ exOf kd o, x ∈ gv :: bkOf o ∨ ∃ C dx fs, H2 x = some (.ins C dx fs) := by
        intro x hx
        cases o with
        | none =>
          rw [List.mem_singleton.mp hx]
          exact .inr ⟨_, _, _, eD2⟩
        | some p =>
          obtain ⟨d, y, b⟩ := p
          obtain ⟨_, ⟨es, ⟨_, D1⟩, _⟩, _⟩ := St2
          rcases List.mem_cons.mp hx with rfl | hx
          · exact .inr ⟨_, _, _, eD2⟩
          rcases List.mem_cons.mp hx with rfl | hx
          · exact .inr ⟨_, _, _, D1⟩
          · exact .inl (List.mem_cons_of_mem _ hx)
      refine ⟨kd, g, o, a, c, H1, ps, rfl, St2, hcok, eg, rw2, fun H3 p o' St3 nw k3 np ep => ?_⟩
      have psg : ∀ y ∈ ps, gv ≠ y := fun y hy z => by
        subst z
        obtain ⟨n, hn⟩ := List.mem_iff_getElem?.mp hy
        have hn2 : n < (rsOf c).length := by
          rw [← rw2.1]
          exact (List.getElem?_eq_some_iff.mp hn).1
        obtain ⟨p', h1, h2, _⟩ := rw2.2 n _ (List.getElem?_eq_getElem hn2)
        rw [hn] at h1
        have := Option.some.inj h1
        subst this
        rw [k1.at eG (no1 hgr)] at h2
        cases h2
      have nO' : ∀ d y b, o' = some (d, y, b) → gv ≠ y ∧ gv ≠ b := fun d y b z => by
        rcases nw d y b z with z | ⟨_, z2, z3⟩
        · exact nO d y b z
        · refine ⟨psg y z2, fun z => ?_⟩
          subst z
          rw [eG2] at z3
          cases z3
      have bk' : ∀ x ∈ gv :: bkOf o', x ∈ gv :: bkOf o ∨ H2 x = none := fun x hx => by
        rcases List.mem_cons.mp hx with rfl | hx
        · exact .inl (List.mem_cons_self ..)
        · cases o' with
          | none => cases hx
          | some q' =>
            obtain ⟨d, y, b⟩ := q'
            rcases nw d y b rfl with z | ⟨_, _, z3⟩
            · subst z
              exact .inl (List.mem_cons_of_mem _ hx)
            · rw [List.mem_singleton.mp hx]
              exact .inr z3
      have sS3 : Src K H3 ca (intsV l) (gv :: bkOf o') := sS2.step k3 exB bk'
      have eG3 := k3.at eG2 gEx
      have eR3 := k3.at eR2 rEx
      have hpg : p ≠ gv := fun z => by
        subst z
        rw [eG2] at np
        cases np
      -- given.append(len(answer))
      refine ⟨_, rfl, .inl ⟨rfl, _, SqL.of eG3⟩, _, rfl, p, _, rfl, .inl (SqL.of ep), gv, _, _, rfl, rfl, eG3, ?_, ?_⟩
      · unfold intsV
        rw [List.length_map]
        exact Nat.lt_of_le_of_lt hsz (by decide)
      have k4 : Kept [gv] H3 (upd H3 gv (.lst (intsV g0 ++ [V.int ((intsV (said (Ks346.act a c).2)).length : Int)]))) := Kept.put (List.mem_singleton.mpr rfl)
      have eG4 : upd H3 gv (.lst (intsV g0 ++ [V.int ((intsV (said (Ks346.act a c).2)).length : Int)])) gv = some (.lst (intsV g0 ++ [V.int ((intsV (said (Ks346.act a c).2)).length : Int)])) := upd_same
      generalize upd H3 gv (.lst (intsV g0 ++ [V.int ((intsV (said (Ks346.act a c).2)).length : Int)])) = H4 at k4 eG4
      -- given.extend(answer)
      refine ⟨_, rfl, .inl ⟨rfl, _, SqL.of eG4⟩, _, rfl, gv, p, _, _, rfl, rfl, eG4, k4.at ep (no1 hpg), ?_, ?_⟩
      · rw [List.length_append]
        unfold intsV
        rw [List.length_map, List.length_map]
        have : (40008 : Nat) ≤ sizeLine := by decide
        show _ + 1 + _ ≤ _
        omega
      have k5 : Kept [gv] H4 (upd H4 gv (.lst ((intsV g0 ++ [V.int ((intsV (said (Ks346.act a c).2)).length : Int)]) ++ intsV (said (Ks346.act a c).2)))) := Kept.put (List.mem_singleton.mpr rfl)
      have k35 := k4.trans k5
      refine ⟨j + 1, o', rfl, hjl, ⟨_, _, rfl⟩, ⟨d2, ?_⟩, ?_, ?_, ?_, nO'⟩
      · rw [ei]
        exact k35.at eR3 (no1 hgr.symm)
      · exact sS3.step k35 (fun x hx => .inl (by rw [List.mem_singleton.mp hx]; exact List.mem_cons_self ..)) (fun x hx => .inl hx)
      · rw [ea]
        obtain ⟨vD3, dd3, eD3⟩ := St3.desk
        refine St3.kept k35 (no1 (ne_of eD3 eG3 fun z => nomatch z)) (fun d y b z => ?_) (fun x xs hx => by rw [List.mem_singleton.mp hx, eG3]; intro z; cases z)
        obtain ⟨n1, n2⟩ := nO' d y b z
        subst z
        obtain ⟨_, ⟨es, ⟨_, D1⟩, _⟩, _⟩ := St3
        exact ⟨no1 (ne_of D1 eG3 fun z => nomatch z), no1 n1.symm, no1 n2.symm⟩
      · rw [upd_same, eT]
        unfold intsV
        rw [List.map_append, List.length_map, List.append_assoc]
        rfl
    · have ej : j = cs.length := by omega
      subst ej
      rw [List.take_length] at eG
      rw [List.take_length]
      refine if_false_of (by rw [← el, decide_eq_true (Nat.le_refl _)]; rfl) ⟨_, rfl, q H gv ?_⟩
      rw [hans]
      exact eG
end
end LD

set_option maxRecDepth 100000
set_option maxHeartbeats 4000000
namespace LD
open PySem PySem.Spec PyProof.Rows L2
open PySem.W (Codec)
/-! ### what is due, call by call, in the mirror's words -/
section
open Ks346 (Abs Call)
theorem act_begin {a : Abs} {key : List Nat} {r z : Nat} (h : B8 key) : Ks346.act a (.begin key r z) = if mayBegin key r z = true then (newDoor key r z, Ks346.no 0) else (a, Ks346.no (-22)) := by
  have ok16 : Ks345.okBytes Ks345.KEY key = decide (key.length = 16) := by
    unfold Ks345.okBytes Ks345.KEY
    have e : (key.all fun x => decide (x < 256)) = true := List.all_eq_true.mpr fun x hx => decide_eq_true (h x hx)
    rw [e, Bool.and_true, Bool.beq_eq_decide_eq]
  show (if Ks345.okBytes Ks345.KEY key = false ∨ Ks345.ROOMS ≤ r ∨ 8 ≤ z then (a, Ks346.no (-22)) else (newDoor key r z, Ks346.no 0)) = _
  rw [ok16]
  unfold mayBegin Ks345.ROOMS
  by_cases c1 : key.length = 16
  · rw [if_pos c1]
    by_cases c2 : r ≤ 63
    · rw [if_pos c2]
      by_cases c3 : z ≤ 7
      · have n : ¬ (decide (key.length = 16) = false ∨ 64 ≤ r ∨ 8 ≤ z) := by
          rw [decide_eq_true c1]
          rintro (q | q)
          · cases q
          · omega
        rw [if_neg n, if_pos (decide_eq_true c3)]
      · rw [if_pos (.inr (.inr (by omega))), if_neg (fun q => c3 (of_decide_eq_true q))]
    · rw [if_pos (.inr (.inl (by omega))), if_neg c2, if_neg Bool.false_ne_true]
  · rw [if_pos (.inl (decide_eq_false c1)), if_neg c1, if_neg Bool.false_ne_true]
theorem good_new {key : List Nat} {r z : Nat} (h : B8 key) (m : mayBegin key r z = true) : Good (newDoor key r z) := by
  unfold mayBegin at m
  by_cases c1 : key.length = 16
  · rw [if_pos c1] at m
    by_cases c2 : r ≤ 63
    · rw [if_pos c2] at m
      exact ⟨c1, h, of_decide_eq_true m, Nat.zero_le _⟩
    · rw [if_neg c2] at m
      cases m
  · rw [if_neg c1] at m
    cases m
theorem act_off {c : Call} (h : opOf c ≠ 0) : Ks346.act {} c = ({}, Ks346.no (-61)) := by
  cases c with
  | begin k r z => exact absurd rfl h
  | _ => rfl
theorem act_day {a : Abs} (g : Good a) (n : Nat) : Ks346.act a (.day n) = ((moveDay a n).1, Ks346.no (moveDay a n).2) := by
  show (if a.on = false then _ else if n < a.day ∨ 65536 ≤ n then (a, Ks346.no (-22)) else ({ a with day := n }, Ks346.no 0)) = _
  rw [g.on, if_neg (by decide)]
  unfold moveDay
  by_cases c : n < a.day ∨ 65535 < n
  · rw [if_pos c, if_pos (by omega)]
  · rw [if_neg c, if_neg (by omega)]
theorem Good.moveDay {a : Abs} (g : Good a) (n : Nat) : Good (moveDay a n).1 := by
  unfold LD.moveDay
  split
  · exact g
  · exact ⟨g.k16, g.k8, g.zone, g.book⟩
theorem look_would {a : Abs} {b : List Nat} (g : Good a) (h : B8 b) : Ks345.look a.key b = if isCard a.key b = true then some (Ks345.cardOf b) else none := look_is g.k8 g.k16 h
theorem act_open {a : Abs} {b : List Nat} (g : Good a) (h : B8 b) : Ks346.act a (.open_ b) = (shownTo a b, Ks346.no (wouldAns a b)) := by
  show (if a.on = false then _ else match Ks345.look a.key b with
    | none => (a, Ks346.no (-71))
    | some c => ((Ks346.shown a c).1, Ks346.no (Ks346.shown a c).2)) = _
  rw [g.on, if_neg (by decide), look_would g h]
  unfold shownTo wouldAns
  by_cases c : isCard a.key b = true
  · rw [if_pos c, if_pos c]
    show ((Ks346.shown a (Ks345.cardOf b)).1, Ks346.no (Ks346.shown a (Ks345.cardOf b)).2) = _
    rw [shown_is (kind_of c).2]
  · rw [if_neg c, if_neg c, if_neg (by decide)]
theorem act_would {a : Abs} {b : List Nat} (g : Good a) (h : B8 b) : Ks346.act a (.would b) = (a, Ks346.no (wouldAns a b)) := by
  show (if a.on = false then _ else match Ks345.look a.key b with
    | none => (a, Ks346.no (-71))
    | some c => (a, Ks346.no (Ks346.shown a c).2)) = _
  rw [g.on, if_neg (by decide), look_would g h]
  unfold wouldAns
  by_cases c : isCard a.key b = true
  · rw [if_pos c, if_pos c]
    show (a, Ks346.no (Ks346.shown a (Ks345.cardOf b)).2) = _
    rw [shown_is (kind_of c).2]
  · rw [if_neg c, if_neg c]
theorem act_bolt {a : Abs} (g : Good a) (n : Nat) : Ks346.act a (.bolt n) = ((setBolt a n).1, Ks346.no (setBolt a n).2) := by
  show (if a.on = false then _ else if 1 < n then (a, Ks346.no (-22)) else ({ a with bolted := n == 1 }, Ks346.no 0)) = _
  rw [g.on, if_neg (by decide), Bool.beq_eq_decide_eq]
  unfold setBolt
  by_cases c : 1 < n
  · rw [if_pos c, if_pos c]
  · rw [if_neg c, if_neg c]
theorem Good.setBolt {a : Abs} (g : Good a) (n : Nat) : Good (setBolt a n).1 := by
  unfold LD.setBolt
  split
  · exact g
  · exact ⟨g.k16, g.k8, g.zone, g.book⟩
theorem act_book {a : Abs} (g : Good a) (n : Nat) : (Ks346.act a (.book n)).1 = a ∧ said (Ks346.act a (.book n)).2 = entryAns a n := by
  unfold Ks346.act entryAns
  dsimp only
  rw [g.on, if_neg (by decide)]
  cases a.book[n]? with
  | none => exact ⟨rfl, rfl⟩
  | some x => exact ⟨rfl, rfl⟩
theorem act_state {a : Abs} (g : Good a) : (Ks346.act a .state).1 = a ∧ said (Ks346.act a .state).2 = stateAns a := by
  have e : Ks346.act a .state = (a, { ret := if a.bolted then 1 else 0, out := [a.room, a.zone, a.day, a.number, a.epoch, a.book.length] }) := by
    show (if a.on = false then _ else _) = _
    rw [g.on, if_neg (by decide)]
  rw [e]
  exact ⟨rfl, rfl⟩
theorem Good.shownTo {a : Abs} (g : Good a) (b : List Nat) : Good (shownTo a b) := by
  unfold LD.shownTo
  split
  · exact g.learn _
  · exact g
theorem intsV_intL (l : List Nat) : intsV (intL l) = nums l := by
  unfold intsV intL nums
  rw [List.map_map]
  rfl
/-- one row: its list -/
theorem RowsAt.one {H0 H : Hp} {ps : List Addr} {b : List Nat} (h : RowsAt H0 H ps [intL b]) : ∃ y, ps = [y] ∧ H y = some (.lst (nums b)) := by
  obtain ⟨p, h1, _, h3⟩ := h.2 0 _ rfl
  have hl : ps.length = 1 := h.1
  match ps, hl, h1 with
  | [x], _, h1 =>
    have : x = p := Option.some.inj h1
    subst this
    rw [intsV_intL] at h3
    exact ⟨x, rfl, h3⟩
theorem RowsAt.none {H0 H : Hp} {ps : List Addr} (h : RowsAt H0 H ps []) : ps = [] := List.eq_nil_of_length_eq_zero h.1
end
end LD

set_option maxRecDepth 100000
set_option maxHeartbeats 4000000
namespace LD
open PySem PySem.Spec PyProof.Rows L2
open PySem.W (Codec)
/-! ### one call, answered -/
section
open Ks346 (Abs Call)
variable {P : Program} {w : World} {K : PySem.W.Frag} {mg : Str → Option Value} {base : Heap} {A : Ad}
theorem no_said (z : Int) : intsV (said (Ks346.no z)) = [V.int z] := rfl
theorem ok_answer (T : Txt K mg A) : FnOk P w K mg base CX0 9 A.f_Desk_answer A.d_Desk_answer P_Desk_answer (spAnswer A) := by
  have GB : FnOk P w K mg base CX0 3 A.f_Desk_begin A.d_Desk_begin P_Desk_begin (spBegin A) := ok_begin T
  have GD : FnOk P w K mg base CX0 1 A.f_Door_move_day A.d_Door_move_day P_Door_move_day (spMoveDay A) := ok_move_day T
  have GS : FnOk P w K mg base CX0 8 A.f_Door_show A.d_Door_show P_Door_show (spShow K A) := ok_show T
  have GBo : FnOk P w K mg base CX0 1 A.f_Door_set_bolt A.d_Door_set_bolt P_Door_set_bolt (spSetBolt A) := ok_set_bolt T
  have GE : FnOk P w K mg base CX0 1 A.f_Door_entry A.d_Door_entry P_Door_entry (spEntry A) := ok_entry T
  have GSt : FnOk P w K mg base CX0 1 A.f_Door_state A.d_Door_state P_Door_state (spState A) := ok_state T
  have GW : FnOk P w K mg base CX0 7 A.f_Door_would_answer A.d_Door_would_answer P_Door_would_answer (spWould K A) := ok_would T
  refine T.F_Desk_answer.ok sc_Desk_answer (fun vs H Q E h => ?_) (fun cdv Ar outer s H vs Q E hr h => ⟨_,
    pss_cons (ps_if (pt_cmp (pc_eqI (pv 1) (pe_const T.k_BEGIN))) (pss_one (ps_ret (pe_meth (pv 0) T.cl_Desk T.M_Desk_begin GB (hr.mono (by decide)) T.B_Desk_begin .nil pass0
      (pa_cons (pe_ix ix_list (pv 2) pe_int (fun _ _ => rfl)) (pa_cons (pe_ix ix_list (pv 2) pe_int (fun _ _ => rfl)) (pa_cons (pe_ix ix_list (pv 2) pe_int (fun _ _ => rfl)) pa_nil)))))) pss_nil)
    (pss_cons (ps_if (pt_cmp (pc_isN (pe_fld (pv 0) rfl))) (pss_one (ps_ret (pe_lst (pa_cons (pe_const T.k_NO_DOOR) pa_nil)))) pss_nil)
    (pss_cons (ps_if (pt_cmp (pc_eqI (pv 1) (pe_const T.k_DAY))) (pss_one (ps_ret (pe_lst (pa_cons (pe_meth (pe_fld (pv 0) rfl) T.cl_Door T.M_Door_move_day GD (hr.mono (by decide)) T.B_Door_move_day .nil pass0 (pa_cons (pe_ix ix_list (pv 2) pe_int (fun _ _ => rfl)) pa_nil)) pa_nil)))) pss_nil)
    (pss_cons (ps_if (pt_cmp (pc_eqI (pv 1) (pe_const T.k_OPEN))) (pss_one (ps_ret (pe_lst (pa_cons (pe_meth (pe_fld (pv 0) rfl) T.cl_Door T.M_Door_show GS hr T.B_Door_show .nil pass0 (pa_cons (pe_ix ix_list (pv 2) pe_int (fun _ _ => rfl)) pa_nil)) pa_nil)))) pss_nil)
    (pss_cons (ps_if (pt_cmp (pc_eqI (pv 1) (pe_const T.k_WOULD))) (pss_one (ps_ret (pe_lst (pa_cons (pe_meth (pe_fld (pv 0) rfl) T.cl_Door T.M_Door_would_answer GW (hr.mono (by decide)) T.B_Door_would_answer .nil pass0 (pa_cons (pe_ix ix_list (pv 2) pe_int (fun _ _ => rfl)) pa_nil)) pa_nil)))) pss_nil)
    (pss_cons (ps_if (pt_cmp (pc_eqI (pv 1) (pe_const T.k_BOLT))) (pss_one (ps_ret (pe_lst (pa_cons (pe_meth (pe_fld (pv 0) rfl) T.cl_Door T.M_Door_set_bolt GBo (hr.mono (by decide)) T.B_Door_set_bolt .nil pass0 (pa_cons (pe_ix ix_list (pv 2) pe_int (fun _ _ => rfl)) pa_nil)) pa_nil)))) pss_nil)
    (pss_cons (ps_if (pt_cmp (pc_eqI (pv 1) (pe_const T.k_BOOK))) (pss_one (ps_ret (pe_meth (pe_fld (pv 0) rfl) T.cl_Door T.M_Door_entry GE (hr.mono (by decide)) T.B_Door_entry .nil pass0 (pa_cons (pe_ix ix_list (pv 2) pe_int (fun _ _ => rfl)) pa_nil)))) pss_nil)
    (pss_one (ps_ret (pe_meth0 (pe_fld (pv 0) rfl) T.cl_Door T.M_Door_state GSt (hr.mono (by decide)) T.B_Door_state .nil pass0))))))))), ?_⟩)
  · obtain ⟨kd, g, o, a, c, H0, ps, rfl, _⟩ := h
    rfl
  · obtain ⟨kd, g, o, a, c, H0, ps, rfl, St, cok, eg, rw, q⟩ := h
    refine ⟨_, rfl, _, _, rfl, rfl, _, rfl, ?_⟩
    obtain ⟨vD, dx, eD⟩ := St.desk
    have hgk : g ≠ kd := ne_of eg eD fun z => nomatch z
    cases c with
    | begin k r z =>
      obtain ⟨y, rfl, ey⟩ := rw.one
      have hb := act_begin (a := a) (r := r) (z := z) cok.1
      refine if_true_of rfl ⟨_, rfl, kd, dx, _, rfl, eD, lk_no ["door"] rfl (by decide +kernel), _, rfl, _, _, _, _, rfl, rfl, SqL.of eg, atI_nat (j := 0) rfl, _, rfl, _, _, _, _, rfl, rfl, SqL.of eg, atI_nat (j := 1) rfl, _, rfl, _, _, _, _, rfl, rfl, SqL.of eg, atI_nat (j := 2) rfl, ?_⟩
      refine ⟨kd, y, vD, k, r, z, rfl, ⟨dx, eD⟩, ey, fun hm H' p k1 np ep => ?_, fun hm H' p d b D1 Dr nd nb k1 np ep => ?_⟩
      · rw [hm, if_neg Bool.false_ne_true] at hb
        rw [hb] at q
        exact q H' p o (St.kept0 k1) (fun _ _ _ z => .inl z) k1.any np ep
      · rw [hm, if_pos rfl] at hb
        rw [hb] at q
        refine q H' p (some (d, y, b)) ⟨D1, Dr, good_new cok.1 hm⟩ (fun d' y' b' z => ?_) (k1.mono fun x hx => ?_) np ep
        · injection z with z
          injection z with z1 z
          injection z with z2 z3
          subst z1 z2 z3
          exact .inr ⟨nd, List.mem_singleton.mpr rfl, nb⟩
        · rw [List.mem_singleton.mp hx]
          cases o <;> exact List.mem_cons_self ..
    | day n =>
      refine if_false_of rfl ?_
      cases ps with
      | cons _ _ => cases rw.none
      | nil =>
      cases o with
      | none =>
        obtain ⟨⟨dx', eD'⟩, rfl⟩ := St
        refine ⟨_, rfl, _, _, dx', _, _, rfl, eD', T.cl_Desk, T.no_Desk_door, kF_door _, _, rfl, if_true_of rfl ⟨(by show 1 ≤ sizeLine; decide), fun p hp => ?_⟩⟩
        exact q _ p none ⟨⟨dx', (Kept.new (ex := []) hp).at0 eD'⟩, rfl⟩ (fun _ _ _ z => nomatch z) (Kept.new hp) hp upd_same
      | some t =>
        obtain ⟨d, y, b⟩ := t
        obtain ⟨⟨dx', eD'⟩, Dr, gd⟩ := St
        obtain ⟨es, ⟨dd, eDr⟩, _, _, eB, _⟩ := id Dr
        refine ⟨_, rfl, _, _, dx', _, _, rfl, eD', T.cl_Desk, T.no_Desk_door, kF_door _, _, rfl, if_false_of rfl ?_⟩
        refine ⟨_, rfl, _, _, rfl, rfl, _, rfl, if_true_of rfl ?_⟩
        refine ⟨_, rfl, _, _, dx', _, _, rfl, eD', T.cl_Desk, T.no_Desk_door, kF_door _, d, dd, _, rfl, eDr, lk_no nDoor rfl (by decide +kernel), _, rfl, _, _, _, _, rfl, rfl, SqL.of eg, atI_nat (j := 0) rfl, ?_⟩
        refine ⟨d, y, b, a, n, rfl, Dr, fun H1 D1 k1 => ⟨(by show 1 ≤ sizeLine; decide), fun p hp => ?_⟩⟩
        rw [act_day gd] at q
        have hkd : kd ≠ d := ins_ne eD' eDr (show (1 : Nat) ≠ 8 by decide)
        have eD1 := k1.at eD' (no1 hkd)
        have k2 : Kept [] H1 (upd H1 p (.lst [.int (moveDay a n).2])) := Kept.new hp
        refine q _ p (some (d, y, b)) ⟨⟨dx', k2.at0 eD1⟩, D1.kept0 k2, gd.moveDay n⟩ (fun _ _ _ z => .inl z) ((k1.mono fun x hx => ?_).trans k2.any) (k1.free (no1 fun z => ?_) hp) upd_same
        · rw [List.mem_singleton.mp hx]
          exact List.mem_cons_of_mem _ (List.mem_cons_self ..)
        · subst z
          obtain ⟨_, ⟨_, z⟩, _⟩ := D1
          rw [hp] at z
          cases z
    | open_ x =>
      refine if_false_of rfl ?_
      obtain ⟨c1, rfl, ec⟩ := rw.one
      cases o with
      | none =>
        obtain ⟨⟨dx', eD'⟩, rfl⟩ := St
        refine ⟨_, rfl, _, _, dx', _, _, rfl, eD', T.cl_Desk, T.no_Desk_door, kF_door _, _, rfl, if_true_of rfl ⟨(by show 1 ≤ sizeLine; decide), fun p hp => ?_⟩⟩
        exact q _ p none ⟨⟨dx', (Kept.new (ex := []) hp).at0 eD'⟩, rfl⟩ (fun _ _ _ z => nomatch z) (Kept.new hp) hp upd_same
      | some t =>
        obtain ⟨d, y, b⟩ := t
        obtain ⟨⟨dx', eD'⟩, Dr, gd⟩ := St
        obtain ⟨es, ⟨dd, eDr⟩, _, _, eB, _⟩ := id Dr
        refine ⟨_, rfl, _, _, dx', _, _, rfl, eD', T.cl_Desk, T.no_Desk_door, kF_door _, _, rfl, if_false_of rfl ?_⟩
        refine ⟨_, rfl, _, _, rfl, rfl, _, rfl, if_false_of rfl ?_⟩
        refine ⟨_, rfl, _, _, rfl, rfl, _, rfl, if_true_of rfl ?_⟩
        refine ⟨_, rfl, _, _, dx', _, _, rfl, eD', T.cl_Desk, T.no_Desk_door, kF_door _, d, dd, _, rfl, eDr, lk_no nDoor rfl (by decide +kernel), _, rfl, _, _, _, _, rfl, rfl, SqL.of eg, atI_nat (j := 0) rfl, ?_⟩
        refine ⟨d, c1, y, b, a, x, rfl, Dr, gd, SqL.of ec, cok.1, fun H1 D1 k1 => ⟨(by show 1 ≤ sizeLine; decide), fun p hp => ?_⟩⟩
        rw [act_open gd cok.1] at q
        have hkd : kd ≠ d := ins_ne eD' eDr (show (1 : Nat) ≠ 8 by decide)
        have hkb : kd ≠ b := ne_of eD' eB fun z => nomatch z
        have eD1 := k1.at eD' (no2 hkd hkb)
        have k2 : Kept [] H1 (upd H1 p (.lst [.int (wouldAns a x)])) := Kept.new hp
        refine q _ p (some (d, y, b)) ⟨⟨dx', k2.at0 eD1⟩, D1.kept0 k2, gd.shownTo x⟩ (fun _ _ _ z => .inl z) ((k1.mono fun x hx => List.mem_cons_of_mem _ hx).trans k2.any) (k1.free (no2 (fun z => ?_) fun z => ?_) hp) upd_same
        · subst z
          obtain ⟨_, ⟨_, z⟩, _⟩ := D1
          rw [hp] at z
          cases z
        · subst z
          obtain ⟨_, _, _, _, z, _⟩ := D1
          rw [hp] at z
          cases z
    | would x =>
      refine if_false_of rfl ?_
      obtain ⟨c1, rfl, ec⟩ := rw.one
      cases o with
      | none =>
        obtain ⟨⟨dx', eD'⟩, rfl⟩ := St
        refine ⟨_, rfl, _, _, dx', _, _, rfl, eD', T.cl_Desk, T.no_Desk_door, kF_door _, _, rfl, if_true_of rfl ⟨(by show 1 ≤ sizeLine; decide), fun p hp => ?_⟩⟩
        exact q _ p none ⟨⟨dx', (Kept.new (ex := []) hp).at0 eD'⟩, rfl⟩ (fun _ _ _ z => nomatch z) (Kept.new hp) hp upd_same
      | some t =>
        obtain ⟨d, y, b⟩ := t
        obtain ⟨⟨dx', eD'⟩, Dr, gd⟩ := St
        obtain ⟨es, ⟨dd, eDr⟩, _, _, eB, _⟩ := id Dr
        refine ⟨_, rfl, _, _, dx', _, _, rfl, eD', T.cl_Desk, T.no_Desk_door, kF_door _, _, rfl, if_false_of rfl ?_⟩
        refine ⟨_, rfl, _, _, rfl, rfl, _, rfl, if_false_of rfl ?_⟩
        refine ⟨_, rfl, _, _, rfl, rfl, _, rfl, if_false_of rfl ?_⟩
        refine ⟨_, rfl, _, _, rfl, rfl, _, rfl, if_true_of rfl ?_⟩
        refine ⟨_, rfl, _, _, dx', _, _, rfl, eD', T.cl_Desk, T.no_Desk_door, kF_door _, d, dd, _, rfl, eDr, lk_no nDoor rfl (by decide +kernel), _, rfl, _, _, _, _, rfl, rfl, SqL.of eg, atI_nat (j := 0) rfl, ?_⟩
        refine ⟨d, c1, y, b, a, x, rfl, Dr, gd, SqL.of ec, cok.1, fun H1 k1 => ⟨(by show 1 ≤ sizeLine; decide), fun p hp => ?_⟩⟩
        rw [act_would gd cok.1] at q
        have k2 : Kept [] H1 (upd H1 p (.lst [.int (wouldAns a x)])) := Kept.new hp
        exact q _ p (some (d, y, b)) ⟨⟨dx', (k1.trans k2).at0 eD'⟩, Dr.kept0 (k1.trans k2), gd⟩ (fun _ _ _ z => .inl z) (k1.trans k2).any (k1.free0 hp) upd_same
    | bolt n =>
      refine if_false_of rfl ?_
      cases ps with
      | cons _ _ => cases rw.none
      | nil =>
      cases o with
      | none =>
        obtain ⟨⟨dx', eD'⟩, rfl⟩ := St
        refine ⟨_, rfl, _, _, dx', _, _, rfl, eD', T.cl_Desk, T.no_Desk_door, kF_door _, _, rfl, if_true_of rfl ⟨(by show 1 ≤ sizeLine; decide), fun p hp => ?_⟩⟩
        exact q _ p none ⟨⟨dx', (Kept.new (ex := []) hp).at0 eD'⟩, rfl⟩ (fun _ _ _ z => nomatch z) (Kept.new hp) hp upd_same
      | some t =>
        obtain ⟨d, y, b⟩ := t
        obtain ⟨⟨dx', eD'⟩, Dr, gd⟩ := St
        obtain ⟨es, ⟨dd, eDr⟩, _, _, eB, _⟩ := id Dr
        refine ⟨_, rfl, _, _, dx', _, _, rfl, eD', T.cl_Desk, T.no_Desk_door, kF_door _, _, rfl, if_false_of rfl ?_⟩
        refine ⟨_, rfl, _, _, rfl, rfl, _, rfl, if_false_of rfl ?_⟩
        refine ⟨_, rfl, _, _, rfl, rfl, _, rfl, if_false_of rfl ?_⟩
        refine ⟨_, rfl, _, _, rfl, rfl, _, rfl, if_false_of rfl ?_⟩
        refine ⟨_, rfl, _, _, rfl, rfl, _, rfl, if_true_of rfl ?_⟩
        refine ⟨_, rfl, _, _, dx', _, _, rfl, eD', T.cl_Desk, T.no_Desk_door, kF_door _, d, dd, _, rfl, eDr, lk_no nDoor rfl (by decide +kernel), _, rfl, _, _, _, _, rfl, rfl, SqL.of eg, atI_nat (j := 0) rfl, ?_⟩
        refine ⟨d, y, b, a, n, rfl, Dr, fun H1 D1 k1 => ⟨(by show 1 ≤ sizeLine; decide), fun p hp => ?_⟩⟩
        rw [act_bolt gd] at q
        have hkd : kd ≠ d := ins_ne eD' eDr (show (1 : Nat) ≠ 8 by decide)
        have eD1 := k1.at eD' (no1 hkd)
        have k2 : Kept [] H1 (upd H1 p (.lst [.int (setBolt a n).2])) := Kept.new hp
        refine q _ p (some (d, y, b)) ⟨⟨dx', k2.at0 eD1⟩, D1.kept0 k2, gd.setBolt n⟩ (fun _ _ _ z => .inl z) ((k1.mono fun x hx => ?_).trans k2.any) (k1.free (no1 fun z => ?_) hp) upd_same
        · rw [List.mem_singleton.mp hx]
          exact List.mem_cons_of_mem _ (List.mem_cons_self ..)
        · subst z
          obtain ⟨_, ⟨_, z⟩, _⟩ := D1
          rw [hp] at z
          cases z
    | book n =>
      refine if_false_of rfl ?_
      cases ps with
      | cons _ _ => cases rw.none
      | nil =>
      cases o with
      | none =>
        obtain ⟨⟨dx', eD'⟩, rfl⟩ := St
        refine ⟨_, rfl, _, _, dx', _, _, rfl, eD', T.cl_Desk, T.no_Desk_door, kF_door _, _, rfl, if_true_of rfl ⟨(by show 1 ≤ sizeLine; decide), fun p hp => ?_⟩⟩
        exact q _ p none ⟨⟨dx', (Kept.new (ex := []) hp).at0 eD'⟩, rfl⟩ (fun _ _ _ z => nomatch z) (Kept.new hp) hp upd_same
      | some t =>
        obtain ⟨d, y, b⟩ := t
        obtain ⟨⟨dx', eD'⟩, Dr, gd⟩ := St
        obtain ⟨es, ⟨dd, eDr⟩, _, _, eB, _⟩ := id Dr
        refine ⟨_, rfl, _, _, dx', _, _, rfl, eD', T.cl_Desk, T.no_Desk_door, kF_door _, _, rfl, if_false_of rfl ?_⟩
        refine ⟨_, rfl, _, _, rfl, rfl, _, rfl, if_false_of rfl ?_⟩
        refine ⟨_, rfl, _, _, rfl, rfl, _, rfl, if_false_of rfl ?_⟩
        refine ⟨_, rfl, _, _, rfl, rfl, _, rfl, if_false_of rfl ?_⟩
        refine ⟨_, rfl, _, _, rfl, rfl, _, rfl, if_false_of rfl ?_⟩
        refine ⟨_, rfl, _, _, rfl, rfl, _, rfl, if_true_of rfl ?_⟩
        refine ⟨_, rfl, _, _, dx', _, _, rfl, eD', T.cl_Desk, T.no_Desk_door, kF_door _, d, dd, _, rfl, eDr, lk_no nDoor rfl (by decide +kernel), _, rfl, _, _, _, _, rfl, rfl, SqL.of eg, atI_nat (j := 0) rfl, ?_⟩
        refine ⟨d, y, b, a, n, rfl, Dr, fun p hp => ?_⟩
        obtain ⟨u1, u2⟩ := act_book gd n
        rw [u1, u2] at q
        have k2 : Kept [] H (upd H p (.lst (intsV (entryAns a n)))) := Kept.new hp
        exact q _ p (some (d, y, b)) ⟨⟨dx', k2.at0 eD'⟩, Dr.kept0 k2, gd⟩ (fun _ _ _ z => .inl z) k2.any hp upd_same
    | state =>
      refine if_false_of rfl ?_
      cases ps with
      | cons _ _ => cases rw.none
      | nil =>
      cases o with
      | none =>
        obtain ⟨⟨dx', eD'⟩, rfl⟩ := St
        refine ⟨_, rfl, _, _, dx', _, _, rfl, eD', T.cl_Desk, T.no_Desk_door, kF_door _, _, rfl, if_true_of rfl ⟨(by show 1 ≤ sizeLine; decide), fun p hp => ?_⟩⟩
        exact q _ p none ⟨⟨dx', (Kept.new (ex := []) hp).at0 eD'⟩, rfl⟩ (fun _ _ _ z => nomatch z) (Kept.new hp) hp upd_same
      | some t =>
        obtain ⟨d, y, b⟩ := t
        obtain ⟨⟨dx', eD'⟩, Dr, gd⟩ := St
        obtain ⟨es, ⟨dd, eDr⟩, _, _, eB, _⟩ := id Dr
        refine ⟨_, rfl, _, _, dx', _, _, rfl, eD', T.cl_Desk, T.no_Desk_door, kF_door _, _, rfl, if_false_of rfl ?_⟩
        refine ⟨_, rfl, _, _, rfl, rfl, _, rfl, if_false_of rfl ?_⟩
        refine ⟨_, rfl, _, _, rfl, rfl, _, rfl, if_false_of rfl ?_⟩
        refine ⟨_, rfl, _, _, rfl, rfl, _, rfl, if_false_of rfl ?_⟩
        refine ⟨_, rfl, _, _, rfl, rfl, _, rfl, if_false_of rfl ?_⟩
        refine ⟨_, rfl, _, _, rfl, rfl, _, rfl, if_false_of rfl ?_⟩
        refine ⟨_, rfl, _, _, dx', _, _, rfl, eD', T.cl_Desk, T.no_Desk_door, kF_door _, d, dd, _, rfl, eDr, lk_no nDoor rfl (by decide +kernel), ?_⟩
        refine ⟨d, y, b, a, rfl, Dr, fun p hp => ?_⟩
        obtain ⟨u1, u2⟩ := act_state gd
        rw [u1, u2] at q
        have k2 : Kept [] H (upd H p (.lst (intsV (stateAns a)))) := Kept.new hp
        exact q _ p (some (d, y, b)) ⟨⟨dx', k2.at0 eD'⟩, Dr.kept0 k2, gd⟩ (fun _ _ _ z => .inl z) k2.any hp upd_same
end
end LD

set_option maxRecDepth 100000
set_option maxHeartbeats 4000000
namespace LD
open PySem PySem.Spec PyProof.Rows L2
open PySem.W (Codec)
theorem all_mk {K : PySem.W.Frag} {h : Heap} {mg : Str → Option Value} (X : K.In h) (G : h.Ns mainGlobals mg)
    {C_Mixer C_Card C_Door C_Reader C_Desk f_number_from f_octets_from f_turned f_Mixer_init f_Mixer_mix_once f_Mixer_mix f_Mixer_take_in f_Mixer_finish f_words_of f_tag_of f_Card_init f_is_for_room f_has_place f_is_card f_may_begin f_Door_init f_Door_move_day f_Door_set_bolt f_Door_would_answer f_Door_show f_Door_judge f_Door_is_meant f_Door_newest f_Door_learn f_Door_write_down f_Door_entry f_Door_state f_Reader_init f_Reader_is_done f_Reader_take_number f_Reader_take_row f_Reader_take_arguments f_Desk_init f_Desk_answer f_Desk_begin f_answers : Addr}
    {od0 an0 : Option Addr} {sl0 : Array (Option Value)} {oc0 kV0 dc0 pm0 cd0 ct0 : Value}
    {od1 an1 : Option Addr} {sl1 : Array (Option Value)} {oc1 kV1 dc1 pm1 cd1 ct1 : Value}
    {od2 an2 : Option Addr} {sl2 : Array (Option Value)} {oc2 kV2 dc2 pm2 cd2 ct2 : Value}
    {od3 an3 : Option Addr} {sl3 : Array (Option Value)} {oc3 kV3 dc3 pm3 cd3 ct3 : Value}
    {od4 an4 : Option Addr} {sl4 : Array (Option Value)} {oc4 kV4 dc4 pm4 cd4 ct4 : Value}
    {od5 an5 : Option Addr} {sl5 : Array (Option Value)} {oc5 kV5 dc5 pm5 cd5 ct5 : Value}
    {od6 an6 : Option Addr} {sl6 : Array (Option Value)} {oc6 kV6 dc6 pm6 cd6 ct6 : Value}
    {od7 an7 : Option Addr} {sl7 : Array (Option Value)} {oc7 kV7 dc7 pm7 cd7 ct7 : Value}
    {od8 an8 : Option Addr} {sl8 : Array (Option Value)} {oc8 kV8 dc8 pm8 cd8 ct8 : Value}
    {od9 an9 : Option Addr} {sl9 : Array (Option Value)} {oc9 kV9 dc9 pm9 cd9 ct9 : Value}
    {od10 an10 : Option Addr} {sl10 : Array (Option Value)} {oc10 kV10 dc10 pm10 cd10 ct10 : Value}
    {od11 an11 : Option Addr} {sl11 : Array (Option Value)} {oc11 kV11 dc11 pm11 cd11 ct11 : Value}
    {od12 an12 : Option Addr} {sl12 : Array (Option Value)} {oc12 kV12 dc12 pm12 cd12 ct12 : Value}
    {od13 an13 : Option Addr} {sl13 : Array (Option Value)} {oc13 kV13 dc13 pm13 cd13 ct13 : Value}
    {od14 an14 : Option Addr} {sl14 : Array (Option Value)} {oc14 kV14 dc14 pm14 cd14 ct14 : Value}
    {od15 an15 : Option Addr} {sl15 : Array (Option Value)} {oc15 kV15 dc15 pm15 cd15 ct15 : Value}
    {od16 an16 : Option Addr} {sl16 : Array (Option Value)} {oc16 kV16 dc16 pm16 cd16 ct16 : Value}
    {od17 an17 : Option Addr} {sl17 : Array (Option Value)} {oc17 kV17 dc17 pm17 cd17 ct17 : Value}
    {od18 an18 : Option Addr} {sl18 : Array (Option Value)} {oc18 kV18 dc18 pm18 cd18 ct18 : Value}
    {od19 an19 : Option Addr} {sl19 : Array (Option Value)} {oc19 kV19 dc19 pm19 cd19 ct19 : Value}
    {od20 an20 : Option Addr} {sl20 : Array (Option Value)} {oc20 kV20 dc20 pm20 cd20 ct20 : Value}
    {od21 an21 : Option Addr} {sl21 : Array (Option Value)} {oc21 kV21 dc21 pm21 cd21 ct21 : Value}
    {od22 an22 : Option Addr} {sl22 : Array (Option Value)} {oc22 kV22 dc22 pm22 cd22 ct22 : Value}
    {od23 an23 : Option Addr} {sl23 : Array (Option Value)} {oc23 kV23 dc23 pm23 cd23 ct23 : Value}
    {od24 an24 : Option Addr} {sl24 : Array (Option Value)} {oc24 kV24 dc24 pm24 cd24 ct24 : Value}
    {od25 an25 : Option Addr} {sl25 : Array (Option Value)} {oc25 kV25 dc25 pm25 cd25 ct25 : Value}
    {od26 an26 : Option Addr} {sl26 : Array (Option Value)} {oc26 kV26 dc26 pm26 cd26 ct26 : Value}
    {od27 an27 : Option Addr} {sl27 : Array (Option Value)} {oc27 kV27 dc27 pm27 cd27 ct27 : Value}
    {od28 an28 : Option Addr} {sl28 : Array (Option Value)} {oc28 kV28 dc28 pm28 cd28 ct28 : Value}
    {od29 an29 : Option Addr} {sl29 : Array (Option Value)} {oc29 kV29 dc29 pm29 cd29 ct29 : Value}
    {od30 an30 : Option Addr} {sl30 : Array (Option Value)} {oc30 kV30 dc30 pm30 cd30 ct30 : Value}
    {od31 an31 : Option Addr} {sl31 : Array (Option Value)} {oc31 kV31 dc31 pm31 cd31 ct31 : Value}
    {od32 an32 : Option Addr} {sl32 : Array (Option Value)} {oc32 kV32 dc32 pm32 cd32 ct32 : Value}
    {od33 an33 : Option Addr} {sl33 : Array (Option Value)} {oc33 kV33 dc33 pm33 cd33 ct33 : Value}
    {od34 an34 : Option Addr} {sl34 : Array (Option Value)} {oc34 kV34 dc34 pm34 cd34 ct34 : Value}
    {od35 an35 : Option Addr} {sl35 : Array (Option Value)} {oc35 kV35 dc35 pm35 cd35 ct35 : Value}
    (aC_Mixer : PySem.W.nsIn K mainGlobals "Mixer" = some (some (.ref C_Mixer)))
    (aC_Card : PySem.W.nsIn K mainGlobals "Card" = some (some (.ref C_Card)))
    (aC_Door : PySem.W.nsIn K mainGlobals "Door" = some (some (.ref C_Door)))
    (aC_Reader : PySem.W.nsIn K mainGlobals "Reader" = some (some (.ref C_Reader)))
    (aC_Desk : PySem.W.nsIn K mainGlobals "Desk" = some (some (.ref C_Desk)))
    (a0 : PySem.W.nsIn K mainGlobals "number_from" = some (some (.ref f_number_from)))
    (l0 : K.lookup f_number_from = some ⟨oc0, od0, .func (PySem.W.fnOf "number_from" "number_from" (defArgs s_number_from) (defBody s_number_from) (defScope s_number_from) .none kV0 dc0 pm0 an0 cd0 ct0), sl0⟩) (c0 : PySem.W.codeIn K cd0 "number_from" = true) (k0 : PySem.W.keepIn K (.ref f_number_from) = true)
    (a1 : PySem.W.nsIn K mainGlobals "octets_from" = some (some (.ref f_octets_from)))
    (l1 : K.lookup f_octets_from = some ⟨oc1, od1, .func (PySem.W.fnOf "octets_from" "octets_from" (defArgs s_octets_from) (defBody s_octets_from) (defScope s_octets_from) .none kV1 dc1 pm1 an1 cd1 ct1), sl1⟩) (c1 : PySem.W.codeIn K cd1 "octets_from" = true) (k1 : PySem.W.keepIn K (.ref f_octets_from) = true)
    (a2 : PySem.W.nsIn K mainGlobals "turned" = some (some (.ref f_turned)))
    (l2 : K.lookup f_turned = some ⟨oc2, od2, .func (PySem.W.fnOf "turned" "turned" (defArgs s_turned) (defBody s_turned) (defScope s_turned) .none kV2 dc2 pm2 an2 cd2 ct2), sl2⟩) (c2 : PySem.W.codeIn K cd2 "turned" = true) (k2 : PySem.W.keepIn K (.ref f_turned) = true)
    (a3 : PySem.W.findIn K (.ref C_Mixer) "__init__" = some (some (.ref f_Mixer_init))) (i3 : PySem.W.isFn K (.ref f_Mixer_init) = true)
    (l3 : K.lookup f_Mixer_init = some ⟨oc3, od3, .func (PySem.W.fnOf "__init__" "Mixer.__init__" (defArgs s_Mixer_init) (defBody s_Mixer_init) (defScope s_Mixer_init) .none kV3 dc3 pm3 an3 cd3 ct3), sl3⟩) (c3 : PySem.W.codeIn K cd3 "Mixer.__init__" = true) (k3 : PySem.W.keepIn K (.ref f_Mixer_init) = true)
    (a4 : PySem.W.findIn K (.ref C_Mixer) "mix_once" = some (some (.ref f_Mixer_mix_once))) (i4 : PySem.W.isFn K (.ref f_Mixer_mix_once) = true)
    (l4 : K.lookup f_Mixer_mix_once = some ⟨oc4, od4, .func (PySem.W.fnOf "mix_once" "Mixer.mix_once" (defArgs s_Mixer_mix_once) (defBody s_Mixer_mix_once) (defScope s_Mixer_mix_once) .none kV4 dc4 pm4 an4 cd4 ct4), sl4⟩) (c4 : PySem.W.codeIn K cd4 "Mixer.mix_once" = true) (k4 : PySem.W.keepIn K (.ref f_Mixer_mix_once) = true)
    (a5 : PySem.W.findIn K (.ref C_Mixer) "mix" = some (some (.ref f_Mixer_mix))) (i5 : PySem.W.isFn K (.ref f_Mixer_mix) = true)
    (l5 : K.lookup f_Mixer_mix = some ⟨oc5, od5, .func (PySem.W.fnOf "mix" "Mixer.mix" (defArgs s_Mixer_mix) (defBody s_Mixer_mix) (defScope s_Mixer_mix) .none kV5 dc5 pm5 an5 cd5 ct5), sl5⟩) (c5 : PySem.W.codeIn K cd5 "Mixer.mix" = true) (k5 : PySem.W.keepIn K (.ref f_Mixer_mix) = true)
    (a6 : PySem.W.findIn K (.ref C_Mixer) "take_in" = some (some (.ref f_Mixer_take_in))) (i6 : PySem.W.isFn K (.ref f_Mixer_take_in) = true)
    (l6 : K.lookup f_Mixer_take_in = some ⟨oc6, od6, .func (PySem.W.fnOf "take_in" "Mixer.take_in" (defArgs s_Mixer_take_in) (defBody s_Mixer_take_in) (defScope s_Mixer_take_in) .none kV6 dc6 pm6 an6 cd6 ct6), sl6⟩) (c6 : PySem.W.codeIn K cd6 "Mixer.take_in" = true) (k6 : PySem.W.keepIn K (.ref f_Mixer_take_in) = true)
    (a7 : PySem.W.findIn K (.ref C_Mixer) "finish" = some (some (.ref f_Mixer_finish))) (i7 : PySem.W.isFn K (.ref f_Mixer_finish) = true)
    (l7 : K.lookup f_Mixer_finish = some ⟨oc7, od7, .func (PySem.W.fnOf "finish" "Mixer.finish" (defArgs s_Mixer_finish) (defBody s_Mixer_finish) (defScope s_Mixer_finish) .none kV7 dc7 pm7 an7 cd7 ct7), sl7⟩) (c7 : PySem.W.codeIn K cd7 "Mixer.finish" = true) (k7 : PySem.W.keepIn K (.ref f_Mixer_finish) = true)
    (a8 : PySem.W.nsIn K mainGlobals "words_of" = some (some (.ref f_words_of)))
    (l8 : K.lookup f_words_of = some ⟨oc8, od8, .func (PySem.W.fnOf "words_of" "words_of" (defArgs s_words_of) (defBody s_words_of) (defScope s_words_of) .none kV8 dc8 pm8 an8 cd8 ct8), sl8⟩) (c8 : PySem.W.codeIn K cd8 "words_of" = true) (k8 : PySem.W.keepIn K (.ref f_words_of) = true)
    (a9 : PySem.W.nsIn K mainGlobals "tag_of" = some (some (.ref f_tag_of)))
    (l9 : K.lookup f_tag_of = some ⟨oc9, od9, .func (PySem.W.fnOf "tag_of" "tag_of" (defArgs s_tag_of) (defBody s_tag_of) (defScope s_tag_of) .none kV9 dc9 pm9 an9 cd9 ct9), sl9⟩) (c9 : PySem.W.codeIn K cd9 "tag_of" = true) (k9 : PySem.W.keepIn K (.ref f_tag_of) = true)
    (a10 : PySem.W.findIn K (.ref C_Card) "__init__" = some (some (.ref f_Card_init))) (i10 : PySem.W.isFn K (.ref f_Card_init) = true)
    (l10 : K.lookup f_Card_init = some ⟨oc10, od10, .func (PySem.W.fnOf "__init__" "Card.__init__" (defArgs s_Card_init) (defBody s_Card_init) (defScope s_Card_init) .none kV10 dc10 pm10 an10 cd10 ct10), sl10⟩) (c10 : PySem.W.codeIn K cd10 "Card.__init__" = true) (k10 : PySem.W.keepIn K (.ref f_Card_init) = true)
    (a11 : PySem.W.nsIn K mainGlobals "is_for_room" = some (some (.ref f_is_for_room)))
    (l11 : K.lookup f_is_for_room = some ⟨oc11, od11, .func (PySem.W.fnOf "is_for_room" "is_for_room" (defArgs s_is_for_room) (defBody s_is_for_room) (defScope s_is_for_room) .none kV11 dc11 pm11 an11 cd11 ct11), sl11⟩) (c11 : PySem.W.codeIn K cd11 "is_for_room" = true) (k11 : PySem.W.keepIn K (.ref f_is_for_room) = true)
    (a12 : PySem.W.nsIn K mainGlobals "has_place" = some (some (.ref f_has_place)))
    (l12 : K.lookup f_has_place = some ⟨oc12, od12, .func (PySem.W.fnOf "has_place" "has_place" (defArgs s_has_place) (defBody s_has_place) (defScope s_has_place) .none kV12 dc12 pm12 an12 cd12 ct12), sl12⟩) (c12 : PySem.W.codeIn K cd12 "has_place" = true) (k12 : PySem.W.keepIn K (.ref f_has_place) = true)
    (a13 : PySem.W.nsIn K mainGlobals "is_card" = some (some (.ref f_is_card)))
    (l13 : K.lookup f_is_card = some ⟨oc13, od13, .func (PySem.W.fnOf "is_card" "is_card" (defArgs s_is_card) (defBody s_is_card) (defScope s_is_card) .none kV13 dc13 pm13 an13 cd13 ct13), sl13⟩) (c13 : PySem.W.codeIn K cd13 "is_card" = true) (k13 : PySem.W.keepIn K (.ref f_is_card) = true)
    (a14 : PySem.W.nsIn K mainGlobals "may_begin" = some (some (.ref f_may_begin)))
    (l14 : K.lookup f_may_begin = some ⟨oc14, od14, .func (PySem.W.fnOf "may_begin" "may_begin" (defArgs s_may_begin) (defBody s_may_begin) (defScope s_may_begin) .none kV14 dc14 pm14 an14 cd14 ct14), sl14⟩) (c14 : PySem.W.codeIn K cd14 "may_begin" = true) (k14 : PySem.W.keepIn K (.ref f_may_begin) = true)
    (a15 : PySem.W.findIn K (.ref C_Door) "__init__" = some (some (.ref f_Door_init))) (i15 : PySem.W.isFn K (.ref f_Door_init) = true)
    (l15 : K.lookup f_Door_init = some ⟨oc15, od15, .func (PySem.W.fnOf "__init__" "Door.__init__" (defArgs s_Door_init) (defBody s_Door_init) (defScope s_Door_init) .none kV15 dc15 pm15 an15 cd15 ct15), sl15⟩) (c15 : PySem.W.codeIn K cd15 "Door.__init__" = true) (k15 : PySem.W.keepIn K (.ref f_Door_init) = true)
    (a16 : PySem.W.findIn K (.ref C_Door) "move_day" = some (some (.ref f_Door_move_day))) (i16 : PySem.W.isFn K (.ref f_Door_move_day) = true)
    (l16 : K.lookup f_Door_move_day = some ⟨oc16, od16, .func (PySem.W.fnOf "move_day" "Door.move_day" (defArgs s_Door_move_day) (defBody s_Door_move_day) (defScope s_Door_move_day) .none kV16 dc16 pm16 an16 cd16 ct16), sl16⟩) (c16 : PySem.W.codeIn K cd16 "Door.move_day" = true) (k16 : PySem.W.keepIn K (.ref f_Door_move_day) = true)
    (a17 : PySem.W.findIn K (.ref C_Door) "set_bolt" = some (some (.ref f_Door_set_bolt))) (i17 : PySem.W.isFn K (.ref f_Door_set_bolt) = true)
    (l17 : K.lookup f_Door_set_bolt = some ⟨oc17, od17, .func (PySem.W.fnOf "set_bolt" "Door.set_bolt" (defArgs s_Door_set_bolt) (defBody s_Door_set_bolt) (defScope s_Door_set_bolt) .none kV17 dc17 pm17 an17 cd17 ct17), sl17⟩) (c17 : PySem.W.codeIn K cd17 "Door.set_bolt" = true) (k17 : PySem.W.keepIn K (.ref f_Door_set_bolt) = true)
    (a18 : PySem.W.findIn K (.ref C_Door) "would_answer" = some (some (.ref f_Door_would_answer))) (i18 : PySem.W.isFn K (.ref f_Door_would_answer) = true)
    (l18 : K.lookup f_Door_would_answer = some ⟨oc18, od18, .func (PySem.W.fnOf "would_answer" "Door.would_answer" (defArgs s_Door_would_answer) (defBody s_Door_would_answer) (defScope s_Door_would_answer) .none kV18 dc18 pm18 an18 cd18 ct18), sl18⟩) (c18 : PySem.W.codeIn K cd18 "Door.would_answer" = true) (k18 : PySem.W.keepIn K (.ref f_Door_would_answer) = true)
    (a19 : PySem.W.findIn K (.ref C_Door) "show" = some (some (.ref f_Door_show))) (i19 : PySem.W.isFn K (.ref f_Door_show) = true)
    (l19 : K.lookup f_Door_show = some ⟨oc19, od19, .func (PySem.W.fnOf "show" "Door.show" (defArgs s_Door_show) (defBody s_Door_show) (defScope s_Door_show) .none kV19 dc19 pm19 an19 cd19 ct19), sl19⟩) (c19 : PySem.W.codeIn K cd19 "Door.show" = true) (k19 : PySem.W.keepIn K (.ref f_Door_show) = true)
    (a20 : PySem.W.findIn K (.ref C_Door) "judge" = some (some (.ref f_Door_judge))) (i20 : PySem.W.isFn K (.ref f_Door_judge) = true)
    (l20 : K.lookup f_Door_judge = some ⟨oc20, od20, .func (PySem.W.fnOf "judge" "Door.judge" (defArgs s_Door_judge) (defBody s_Door_judge) (defScope s_Door_judge) .none kV20 dc20 pm20 an20 cd20 ct20), sl20⟩) (c20 : PySem.W.codeIn K cd20 "Door.judge" = true) (k20 : PySem.W.keepIn K (.ref f_Door_judge) = true)
    (a21 : PySem.W.findIn K (.ref C_Door) "is_meant" = some (some (.ref f_Door_is_meant))) (i21 : PySem.W.isFn K (.ref f_Door_is_meant) = true)
    (l21 : K.lookup f_Door_is_meant = some ⟨oc21, od21, .func (PySem.W.fnOf "is_meant" "Door.is_meant" (defArgs s_Door_is_meant) (defBody s_Door_is_meant) (defScope s_Door_is_meant) .none kV21 dc21 pm21 an21 cd21 ct21), sl21⟩) (c21 : PySem.W.codeIn K cd21 "Door.is_meant" = true) (k21 : PySem.W.keepIn K (.ref f_Door_is_meant) = true)
    (a22 : PySem.W.findIn K (.ref C_Door) "newest" = some (some (.ref f_Door_newest))) (i22 : PySem.W.isFn K (.ref f_Door_newest) = true)
    (l22 : K.lookup f_Door_newest = some ⟨oc22, od22, .func (PySem.W.fnOf "newest" "Door.newest" (defArgs s_Door_newest) (defBody s_Door_newest) (defScope s_Door_newest) .none kV22 dc22 pm22 an22 cd22 ct22), sl22⟩) (c22 : PySem.W.codeIn K cd22 "Door.newest" = true) (k22 : PySem.W.keepIn K (.ref f_Door_newest) = true)
    (a23 : PySem.W.findIn K (.ref C_Door) "learn" = some (some (.ref f_Door_learn))) (i23 : PySem.W.isFn K (.ref f_Door_learn) = true)
    (l23 : K.lookup f_Door_learn = some ⟨oc23, od23, .func (PySem.W.fnOf "learn" "Door.learn" (defArgs s_Door_learn) (defBody s_Door_learn) (defScope s_Door_learn) .none kV23 dc23 pm23 an23 cd23 ct23), sl23⟩) (c23 : PySem.W.codeIn K cd23 "Door.learn" = true) (k23 : PySem.W.keepIn K (.ref f_Door_learn) = true)
    (a24 : PySem.W.findIn K (.ref C_Door) "write_down" = some (some (.ref f_Door_write_down))) (i24 : PySem.W.isFn K (.ref f_Door_write_down) = true)
    (l24 : K.lookup f_Door_write_down = some ⟨oc24, od24, .func (PySem.W.fnOf "write_down" "Door.write_down" (defArgs s_Door_write_down) (defBody s_Door_write_down) (defScope s_Door_write_down) .none kV24 dc24 pm24 an24 cd24 ct24), sl24⟩) (c24 : PySem.W.codeIn K cd24 "Door.write_down" = true) (k24 : PySem.W.keepIn K (.ref f_Door_write_down) = true)
    (a25 : PySem.W.findIn K (.ref C_Door) "entry" = some (some (.ref f_Door_entry))) (i25 : PySem.W.isFn K (.ref f_Door_entry) = true)
    (l25 : K.lookup f_Door_entry = some ⟨oc25, od25, .func (PySem.W.fnOf "entry" "Door.entry" (defArgs s_Door_entry) (defBody s_Door_entry) (defScope s_Door_entry) .none kV25 dc25 pm25 an25 cd25 ct25), sl25⟩) (c25 : PySem.W.codeIn K cd25 "Door.entry" = true) (k25 : PySem.W.keepIn K (.ref f_Door_entry) = true)
    (a26 : PySem.W.findIn K (.ref C_Door) "state" = some (some (.ref f_Door_state))) (i26 : PySem.W.isFn K (.ref f_Door_state) = true)
    (l26 : K.lookup f_Door_state = some ⟨oc26, od26, .func (PySem.W.fnOf "state" "Door.state" (defArgs s_Door_state) (defBody s_Door_state) (defScope s_Door_state) .none kV26 dc26 pm26 an26 cd26 ct26), sl26⟩) (c26 : PySem.W.codeIn K cd26 "Door.state" = true) (k26 : PySem.W.keepIn K (.ref f_Door_state) = true)
    (a27 : PySem.W.findIn K (.ref C_Reader) "__init__" = some (some (.ref f_Reader_init))) (i27 : PySem.W.isFn K (.ref f_Reader_init) = true)
    (l27 : K.lookup f_Reader_init = some ⟨oc27, od27, .func (PySem.W.fnOf "__init__" "Reader.__init__" (defArgs s_Reader_init) (defBody s_Reader_init) (defScope s_Reader_init) .none kV27 dc27 pm27 an27 cd27 ct27), sl27⟩) (c27 : PySem.W.codeIn K cd27 "Reader.__init__" = true) (k27 : PySem.W.keepIn K (.ref f_Reader_init) = true)
    (a28 : PySem.W.findIn K (.ref C_Reader) "is_done" = some (some (.ref f_Reader_is_done))) (i28 : PySem.W.isFn K (.ref f_Reader_is_done) = true)
    (l28 : K.lookup f_Reader_is_done = some ⟨oc28, od28, .func (PySem.W.fnOf "is_done" "Reader.is_done" (defArgs s_Reader_is_done) (defBody s_Reader_is_done) (defScope s_Reader_is_done) .none kV28 dc28 pm28 an28 cd28 ct28), sl28⟩) (c28 : PySem.W.codeIn K cd28 "Reader.is_done" = true) (k28 : PySem.W.keepIn K (.ref f_Reader_is_done) = true)
    (a29 : PySem.W.findIn K (.ref C_Reader) "take_number" = some (some (.ref f_Reader_take_number))) (i29 : PySem.W.isFn K (.ref f_Reader_take_number) = true)
    (l29 : K.lookup f_Reader_take_number = some ⟨oc29, od29, .func (PySem.W.fnOf "take_number" "Reader.take_number" (defArgs s_Reader_take_number) (defBody s_Reader_take_number) (defScope s_Reader_take_number) .none kV29 dc29 pm29 an29 cd29 ct29), sl29⟩) (c29 : PySem.W.codeIn K cd29 "Reader.take_number" = true) (k29 : PySem.W.keepIn K (.ref f_Reader_take_number) = true)
    (a30 : PySem.W.findIn K (.ref C_Reader) "take_row" = some (some (.ref f_Reader_take_row))) (i30 : PySem.W.isFn K (.ref f_Reader_take_row) = true)
    (l30 : K.lookup f_Reader_take_row = some ⟨oc30, od30, .func (PySem.W.fnOf "take_row" "Reader.take_row" (defArgs s_Reader_take_row) (defBody s_Reader_take_row) (defScope s_Reader_take_row) .none kV30 dc30 pm30 an30 cd30 ct30), sl30⟩) (c30 : PySem.W.codeIn K cd30 "Reader.take_row" = true) (k30 : PySem.W.keepIn K (.ref f_Reader_take_row) = true)
    (a31 : PySem.W.findIn K (.ref C_Reader) "take_arguments" = some (some (.ref f_Reader_take_arguments))) (i31 : PySem.W.isFn K (.ref f_Reader_take_arguments) = true)
    (l31 : K.lookup f_Reader_take_arguments = some ⟨oc31, od31, .func (PySem.W.fnOf "take_arguments" "Reader.take_arguments" (defArgs s_Reader_take_arguments) (defBody s_Reader_take_arguments) (defScope s_Reader_take_arguments) .none kV31 dc31 pm31 an31 cd31 ct31), sl31⟩) (c31 : PySem.W.codeIn K cd31 "Reader.take_arguments" = true) (k31 : PySem.W.keepIn K (.ref f_Reader_take_arguments) = true)
    (a32 : PySem.W.findIn K (.ref C_Desk) "__init__" = some (some (.ref f_Desk_init))) (i32 : PySem.W.isFn K (.ref f_Desk_init) = true)
    (l32 : K.lookup f_Desk_init = some ⟨oc32, od32, .func (PySem.W.fnOf "__init__" "Desk.__init__" (defArgs s_Desk_init) (defBody s_Desk_init) (defScope s_Desk_init) .none kV32 dc32 pm32 an32 cd32 ct32), sl32⟩) (c32 : PySem.W.codeIn K cd32 "Desk.__init__" = true) (k32 : PySem.W.keepIn K (.ref f_Desk_init) = true)
    (a33 : PySem.W.findIn K (.ref C_Desk) "answer" = some (some (.ref f_Desk_answer))) (i33 : PySem.W.isFn K (.ref f_Desk_answer) = true)
    (l33 : K.lookup f_Desk_answer = some ⟨oc33, od33, .func (PySem.W.fnOf "answer" "Desk.answer" (defArgs s_Desk_answer) (defBody s_Desk_answer) (defScope s_Desk_answer) .none kV33 dc33 pm33 an33 cd33 ct33), sl33⟩) (c33 : PySem.W.codeIn K cd33 "Desk.answer" = true) (k33 : PySem.W.keepIn K (.ref f_Desk_answer) = true)
    (a34 : PySem.W.findIn K (.ref C_Desk) "begin" = some (some (.ref f_Desk_begin))) (i34 : PySem.W.isFn K (.ref f_Desk_begin) = true)
    (l34 : K.lookup f_Desk_begin = some ⟨oc34, od34, .func (PySem.W.fnOf "begin" "Desk.begin" (defArgs s_Desk_begin) (defBody s_Desk_begin) (defScope s_Desk_begin) .none kV34 dc34 pm34 an34 cd34 ct34), sl34⟩) (c34 : PySem.W.codeIn K cd34 "Desk.begin" = true) (k34 : PySem.W.keepIn K (.ref f_Desk_begin) = true)
    (a35 : PySem.W.nsIn K mainGlobals "answers" = some (some (.ref f_answers)))
    (l35 : K.lookup f_answers = some ⟨oc35, od35, .func (PySem.W.fnOf "answers" "answers" (defArgs s_answers) (defBody s_answers) (defScope s_answers) .none kV35 dc35 pm35 an35 cd35 ct35), sl35⟩) (c35 : PySem.W.codeIn K cd35 "answers" = true) (k35 : PySem.W.keepIn K (.ref f_answers) = true)
    (pg_Mixer : PySem.W.plainGet K C_Mixer Str.empty = true) (hd_Mixer : PySem.W.hasDictIn K C_Mixer = true) (po_Mixer : PySem.W.plainOver K C_Mixer = true) (sa_Mixer : PySem.W.findIn K (.ref C_Mixer) "__setattr__" = some (some (.builtin "object.__setattr__"))) (mk_Mixer : PySem.W.makesIn K C_Mixer = true) (kc_Mixer : PySem.W.keepIn K (.ref C_Mixer) = true)
    (n_Mixer_a : PySem.W.findIn K (.ref C_Mixer) "a" = some none)
    (n_Mixer_b : PySem.W.findIn K (.ref C_Mixer) "b" = some none)
    (n_Mixer_c : PySem.W.findIn K (.ref C_Mixer) "c" = some none)
    (n_Mixer_d : PySem.W.findIn K (.ref C_Mixer) "d" = some none)
    (pg_Card : PySem.W.plainGet K C_Card Str.empty = true) (hd_Card : PySem.W.hasDictIn K C_Card = true) (po_Card : PySem.W.plainOver K C_Card = true) (sa_Card : PySem.W.findIn K (.ref C_Card) "__setattr__" = some (some (.builtin "object.__setattr__"))) (mk_Card : PySem.W.makesIn K C_Card = true) (kc_Card : PySem.W.keepIn K (.ref C_Card) = true)
    (n_Card_kind : PySem.W.findIn K (.ref C_Card) "kind" = some none)
    (n_Card_place : PySem.W.findIn K (.ref C_Card) "place" = some none)
    (n_Card_number : PySem.W.findIn K (.ref C_Card) "number" = some none)
    (n_Card_last : PySem.W.findIn K (.ref C_Card) "last" = some none)
    (n_Card_serial : PySem.W.findIn K (.ref C_Card) "serial" = some none)
    (pg_Door : PySem.W.plainGet K C_Door Str.empty = true) (hd_Door : PySem.W.hasDictIn K C_Door = true) (po_Door : PySem.W.plainOver K C_Door = true) (sa_Door : PySem.W.findIn K (.ref C_Door) "__setattr__" = some (some (.builtin "object.__setattr__"))) (mk_Door : PySem.W.makesIn K C_Door = true) (kc_Door : PySem.W.keepIn K (.ref C_Door) = true)
    (n_Door_room : PySem.W.findIn K (.ref C_Door) "room" = some none)
    (n_Door_zone : PySem.W.findIn K (.ref C_Door) "zone" = some none)
    (n_Door_key : PySem.W.findIn K (.ref C_Door) "key" = some none)
    (n_Door_day : PySem.W.findIn K (.ref C_Door) "day" = some none)
    (n_Door_learned_number : PySem.W.findIn K (.ref C_Door) "learned_number" = some none)
    (n_Door_learned_round : PySem.W.findIn K (.ref C_Door) "learned_round" = some none)
    (n_Door_bolted : PySem.W.findIn K (.ref C_Door) "bolted" = some none)
    (n_Door_book : PySem.W.findIn K (.ref C_Door) "book" = some none)
    (pg_Reader : PySem.W.plainGet K C_Reader Str.empty = true) (hd_Reader : PySem.W.hasDictIn K C_Reader = true) (po_Reader : PySem.W.plainOver K C_Reader = true) (sa_Reader : PySem.W.findIn K (.ref C_Reader) "__setattr__" = some (some (.builtin "object.__setattr__"))) (mk_Reader : PySem.W.makesIn K C_Reader = true) (kc_Reader : PySem.W.keepIn K (.ref C_Reader) = true)
    (n_Reader_calls : PySem.W.findIn K (.ref C_Reader) "calls" = some none)
    (n_Reader_at : PySem.W.findIn K (.ref C_Reader) "at" = some none)
    (pg_Desk : PySem.W.plainGet K C_Desk Str.empty = true) (hd_Desk : PySem.W.hasDictIn K C_Desk = true) (po_Desk : PySem.W.plainOver K C_Desk = true) (sa_Desk : PySem.W.findIn K (.ref C_Desk) "__setattr__" = some (some (.builtin "object.__setattr__"))) (mk_Desk : PySem.W.makesIn K C_Desk = true) (kc_Desk : PySem.W.keepIn K (.ref C_Desk) = true)
    (n_Desk_door : PySem.W.findIn K (.ref C_Desk) "door" = some none)
    {t_MASK : Tok} (v_MASK : PySem.W.nsIn K mainGlobals "MASK" = some (some (.int (18446744073709551615) t_MASK)))
    {t_GUEST : Tok} (v_GUEST : PySem.W.nsIn K mainGlobals "GUEST" = some (some (.int (1) t_GUEST)))
    {t_STAFF : Tok} (v_STAFF : PySem.W.nsIn K mainGlobals "STAFF" = some (some (.int (2) t_STAFF)))
    {t_SHUTTING : Tok} (v_SHUTTING : PySem.W.nsIn K mainGlobals "SHUTTING" = some (some (.int (3) t_SHUTTING)))
    {t_EMERGENCY : Tok} (v_EMERGENCY : PySem.W.nsIn K mainGlobals "EMERGENCY" = some (some (.int (4) t_EMERGENCY)))
    {t_CARD_LENGTH : Tok} (v_CARD_LENGTH : PySem.W.nsIn K mainGlobals "CARD_LENGTH" = some (some (.int (16) t_CARD_LENGTH)))
    {t_LAST_ROOM : Tok} (v_LAST_ROOM : PySem.W.nsIn K mainGlobals "LAST_ROOM" = some (some (.int (63) t_LAST_ROOM)))
    {t_EVERY_ZONE : Tok} (v_EVERY_ZONE : PySem.W.nsIn K mainGlobals "EVERY_ZONE" = some (some (.int (255) t_EVERY_ZONE)))
    {t_KEY_LENGTH : Tok} (v_KEY_LENGTH : PySem.W.nsIn K mainGlobals "KEY_LENGTH" = some (some (.int (16) t_KEY_LENGTH)))
    {t_LAST_ZONE : Tok} (v_LAST_ZONE : PySem.W.nsIn K mainGlobals "LAST_ZONE" = some (some (.int (7) t_LAST_ZONE)))
    {t_LAST_DAY : Tok} (v_LAST_DAY : PySem.W.nsIn K mainGlobals "LAST_DAY" = some (some (.int (65535) t_LAST_DAY)))
    {t_BOOK_LENGTH : Tok} (v_BOOK_LENGTH : PySem.W.nsIn K mainGlobals "BOOK_LENGTH" = some (some (.int (16) t_BOOK_LENGTH)))
    {t_DONE : Tok} (v_DONE : PySem.W.nsIn K mainGlobals "DONE" = some (some (.int (0) t_DONE)))
    {t_NO_ENTRY : Tok} (v_NO_ENTRY : PySem.W.nsIn K mainGlobals "NO_ENTRY" = some (some (.int (-2) t_NO_ENTRY)))
    {t_ELSEWHERE : Tok} (v_ELSEWHERE : PySem.W.nsIn K mainGlobals "ELSEWHERE" = some (some (.int (-13) t_ELSEWHERE)))
    {t_BOLTED : Tok} (v_BOLTED : PySem.W.nsIn K mainGlobals "BOLTED" = some (some (.int (-15) t_BOLTED)))
    {t_OLDER : Tok} (v_OLDER : PySem.W.nsIn K mainGlobals "OLDER" = some (some (.int (-17) t_OLDER)))
    {t_WRONG_VALUE : Tok} (v_WRONG_VALUE : PySem.W.nsIn K mainGlobals "WRONG_VALUE" = some (some (.int (-22) t_WRONG_VALUE)))
    {t_OVER : Tok} (v_OVER : PySem.W.nsIn K mainGlobals "OVER" = some (some (.int (-34) t_OVER)))
    {t_NOT_A_CARD : Tok} (v_NOT_A_CARD : PySem.W.nsIn K mainGlobals "NOT_A_CARD" = some (some (.int (-71) t_NOT_A_CARD)))
    {t_BEGIN : Tok} (v_BEGIN : PySem.W.nsIn K mainGlobals "BEGIN" = some (some (.int (0) t_BEGIN)))
    {t_DAY : Tok} (v_DAY : PySem.W.nsIn K mainGlobals "DAY" = some (some (.int (1) t_DAY)))
    {t_OPEN : Tok} (v_OPEN : PySem.W.nsIn K mainGlobals "OPEN" = some (some (.int (2) t_OPEN)))
    {t_WOULD : Tok} (v_WOULD : PySem.W.nsIn K mainGlobals "WOULD" = some (some (.int (3) t_WOULD)))
    {t_BOLT : Tok} (v_BOLT : PySem.W.nsIn K mainGlobals "BOLT" = some (some (.int (4) t_BOLT)))
    {t_BOOK : Tok} (v_BOOK : PySem.W.nsIn K mainGlobals "BOOK" = some (some (.int (5) t_BOOK)))
    {a_SHAPES : Addr} (v_SHAPES : PySem.W.nsIn K mainGlobals "SHAPES" = some (some (.ref a_SHAPES)))
    {p0_SHAPES p1_SHAPES p2_SHAPES p3_SHAPES p4_SHAPES p5_SHAPES p6_SHAPES : Addr} {o_SHAPES : Option Addr} {n_SHAPES : Nat} {s_SHAPES : Array (Option Value)}
    (w_SHAPES : K.lookup a_SHAPES = some ⟨.type "tuple", o_SHAPES, .seq #[.ref p0_SHAPES, .ref p1_SHAPES, .ref p2_SHAPES, .ref p3_SHAPES, .ref p4_SHAPES, .ref p5_SHAPES, .ref p6_SHAPES] n_SHAPES, s_SHAPES⟩)
    {t00_SHAPES t01_SHAPES : Tok} {o0_SHAPES : Option Addr} {n0_SHAPES : Nat} {s0_SHAPES : Array (Option Value)} (w0_SHAPES : K.lookup p0_SHAPES = some ⟨.type "tuple", o0_SHAPES, .seq #[.int (2) t00_SHAPES, .int (1) t01_SHAPES] n0_SHAPES, s0_SHAPES⟩)
    {t10_SHAPES t11_SHAPES : Tok} {o1_SHAPES : Option Addr} {n1_SHAPES : Nat} {s1_SHAPES : Array (Option Value)} (w1_SHAPES : K.lookup p1_SHAPES = some ⟨.type "tuple", o1_SHAPES, .seq #[.int (1) t10_SHAPES, .int (0) t11_SHAPES] n1_SHAPES, s1_SHAPES⟩)
    {t20_SHAPES t21_SHAPES : Tok} {o2_SHAPES : Option Addr} {n2_SHAPES : Nat} {s2_SHAPES : Array (Option Value)} (w2_SHAPES : K.lookup p2_SHAPES = some ⟨.type "tuple", o2_SHAPES, .seq #[.int (0) t20_SHAPES, .int (1) t21_SHAPES] n2_SHAPES, s2_SHAPES⟩)
    {t30_SHAPES t31_SHAPES : Tok} {o3_SHAPES : Option Addr} {n3_SHAPES : Nat} {s3_SHAPES : Array (Option Value)} (w3_SHAPES : K.lookup p3_SHAPES = some ⟨.type "tuple", o3_SHAPES, .seq #[.int (0) t30_SHAPES, .int (1) t31_SHAPES] n3_SHAPES, s3_SHAPES⟩)
    {t40_SHAPES t41_SHAPES : Tok} {o4_SHAPES : Option Addr} {n4_SHAPES : Nat} {s4_SHAPES : Array (Option Value)} (w4_SHAPES : K.lookup p4_SHAPES = some ⟨.type "tuple", o4_SHAPES, .seq #[.int (1) t40_SHAPES, .int (0) t41_SHAPES] n4_SHAPES, s4_SHAPES⟩)
    {t50_SHAPES t51_SHAPES : Tok} {o5_SHAPES : Option Addr} {n5_SHAPES : Nat} {s5_SHAPES : Array (Option Value)} (w5_SHAPES : K.lookup p5_SHAPES = some ⟨.type "tuple", o5_SHAPES, .seq #[.int (1) t50_SHAPES, .int (0) t51_SHAPES] n5_SHAPES, s5_SHAPES⟩)
    {t60_SHAPES t61_SHAPES : Tok} {o6_SHAPES : Option Addr} {n6_SHAPES : Nat} {s6_SHAPES : Array (Option Value)} (w6_SHAPES : K.lookup p6_SHAPES = some ⟨.type "tuple", o6_SHAPES, .seq #[.int (0) t60_SHAPES, .int (0) t61_SHAPES] n6_SHAPES, s6_SHAPES⟩)
    {t_NO_DOOR : Tok} (v_NO_DOOR : PySem.W.nsIn K mainGlobals "NO_DOOR" = some (some (.int (-61) t_NO_DOOR)))
    (z_reversed : PySem.W.nsIn K mainGlobals "reversed" = some none)
    (z_range : PySem.W.nsIn K mainGlobals "range" = some none)
    (z_len : PySem.W.nsIn K mainGlobals "len" = some none)
    (z_list : PySem.W.nsIn K mainGlobals "list" = some none)
    : ∃ A : Ad, Txt K mg A ∧ mg "answers" = some (.ref A.f_answers) ∧ ∀ (s : Shared) (us : List Value), us.length = (P_answers : List Str).length → BindsTo s A.d_answers ⟨us, []⟩ ((P_answers : List Str).zip us) := by
  have F0 := fun_mk (st := s_number_from) l0 c0 k0
  have b0 := F0.binds (ps := P_number_from) fun _ _ _ _ _ _ us hl => match us, hl with | [_], _ => rfl
  have F1 := fun_mk (st := s_octets_from) l1 c1 k1
  have b1 := F1.binds (ps := P_octets_from) fun _ _ _ _ _ _ us hl => match us, hl with | [_, _], _ => rfl
  have F2 := fun_mk (st := s_turned) l2 c2 k2
  have b2 := F2.binds (ps := P_turned) fun _ _ _ _ _ _ us hl => match us, hl with | [_, _], _ => rfl
  have F3 := fun_mk (st := s_Mixer_init) l3 c3 k3
  have b3 := F3.binds (ps := P_Mixer_init) fun _ _ _ _ _ _ us hl => match us, hl with | [_, _], _ => rfl
  have F4 := fun_mk (st := s_Mixer_mix_once) l4 c4 k4
  have b4 := F4.binds (ps := P_Mixer_mix_once) fun _ _ _ _ _ _ us hl => match us, hl with | [_], _ => rfl
  have F5 := fun_mk (st := s_Mixer_mix) l5 c5 k5
  have b5 := F5.binds (ps := P_Mixer_mix) fun _ _ _ _ _ _ us hl => match us, hl with | [_, _], _ => rfl
  have F6 := fun_mk (st := s_Mixer_take_in) l6 c6 k6
  have b6 := F6.binds (ps := P_Mixer_take_in) fun _ _ _ _ _ _ us hl => match us, hl with | [_, _], _ => rfl
  have F7 := fun_mk (st := s_Mixer_finish) l7 c7 k7
  have b7 := F7.binds (ps := P_Mixer_finish) fun _ _ _ _ _ _ us hl => match us, hl with | [_], _ => rfl
  have F8 := fun_mk (st := s_words_of) l8 c8 k8
  have b8 := F8.binds (ps := P_words_of) fun _ _ _ _ _ _ us hl => match us, hl with | [_], _ => rfl
  have F9 := fun_mk (st := s_tag_of) l9 c9 k9
  have b9 := F9.binds (ps := P_tag_of) fun _ _ _ _ _ _ us hl => match us, hl with | [_, _], _ => rfl
  have F10 := fun_mk (st := s_Card_init) l10 c10 k10
  have b10 := F10.binds (ps := P_Card_init) fun _ _ _ _ _ _ us hl => match us, hl with | [_, _], _ => rfl
  have F11 := fun_mk (st := s_is_for_room) l11 c11 k11
  have b11 := F11.binds (ps := P_is_for_room) fun _ _ _ _ _ _ us hl => match us, hl with | [_], _ => rfl
  have F12 := fun_mk (st := s_has_place) l12 c12 k12
  have b12 := F12.binds (ps := P_has_place) fun _ _ _ _ _ _ us hl => match us, hl with | [_, _], _ => rfl
  have F13 := fun_mk (st := s_is_card) l13 c13 k13
  have b13 := F13.binds (ps := P_is_card) fun _ _ _ _ _ _ us hl => match us, hl with | [_, _], _ => rfl
  have F14 := fun_mk (st := s_may_begin) l14 c14 k14
  have b14 := F14.binds (ps := P_may_begin) fun _ _ _ _ _ _ us hl => match us, hl with | [_, _, _], _ => rfl
  have F15 := fun_mk (st := s_Door_init) l15 c15 k15
  have b15 := F15.binds (ps := P_Door_init) fun _ _ _ _ _ _ us hl => match us, hl with | [_, _, _, _], _ => rfl
  have F16 := fun_mk (st := s_Door_move_day) l16 c16 k16
  have b16 := F16.binds (ps := P_Door_move_day) fun _ _ _ _ _ _ us hl => match us, hl with | [_, _], _ => rfl
  have F17 := fun_mk (st := s_Door_set_bolt) l17 c17 k17
  have b17 := F17.binds (ps := P_Door_set_bolt) fun _ _ _ _ _ _ us hl => match us, hl with | [_, _], _ => rfl
  have F18 := fun_mk (st := s_Door_would_answer) l18 c18 k18
  have b18 := F18.binds (ps := P_Door_would_answer) fun _ _ _ _ _ _ us hl => match us, hl with | [_, _], _ => rfl
  have F19 := fun_mk (st := s_Door_show) l19 c19 k19
  have b19 := F19.binds (ps := P_Door_show) fun _ _ _ _ _ _ us hl => match us, hl with | [_, _], _ => rfl
  have F20 := fun_mk (st := s_Door_judge) l20 c20 k20
  have b20 := F20.binds (ps := P_Door_judge) fun _ _ _ _ _ _ us hl => match us, hl with | [_, _], _ => rfl
  have F21 := fun_mk (st := s_Door_is_meant) l21 c21 k21
  have b21 := F21.binds (ps := P_Door_is_meant) fun _ _ _ _ _ _ us hl => match us, hl with | [_, _], _ => rfl
  have F22 := fun_mk (st := s_Door_newest) l22 c22 k22
  have b22 := F22.binds (ps := P_Door_newest) fun _ _ _ _ _ _ us hl => match us, hl with | [_, _], _ => rfl
  have F23 := fun_mk (st := s_Door_learn) l23 c23 k23
  have b23 := F23.binds (ps := P_Door_learn) fun _ _ _ _ _ _ us hl => match us, hl with | [_, _], _ => rfl
  have F24 := fun_mk (st := s_Door_write_down) l24 c24 k24
  have b24 := F24.binds (ps := P_Door_write_down) fun _ _ _ _ _ _ us hl => match us, hl with | [_, _], _ => rfl
  have F25 := fun_mk (st := s_Door_entry) l25 c25 k25
  have b25 := F25.binds (ps := P_Door_entry) fun _ _ _ _ _ _ us hl => match us, hl with | [_, _], _ => rfl
  have F26 := fun_mk (st := s_Door_state) l26 c26 k26
  have b26 := F26.binds (ps := P_Door_state) fun _ _ _ _ _ _ us hl => match us, hl with | [_], _ => rfl
  have F27 := fun_mk (st := s_Reader_init) l27 c27 k27
  have b27 := F27.binds (ps := P_Reader_init) fun _ _ _ _ _ _ us hl => match us, hl with | [_, _], _ => rfl
  have F28 := fun_mk (st := s_Reader_is_done) l28 c28 k28
  have b28 := F28.binds (ps := P_Reader_is_done) fun _ _ _ _ _ _ us hl => match us, hl with | [_], _ => rfl
  have F29 := fun_mk (st := s_Reader_take_number) l29 c29 k29
  have b29 := F29.binds (ps := P_Reader_take_number) fun _ _ _ _ _ _ us hl => match us, hl with | [_], _ => rfl
  have F30 := fun_mk (st := s_Reader_take_row) l30 c30 k30
  have b30 := F30.binds (ps := P_Reader_take_row) fun _ _ _ _ _ _ us hl => match us, hl with | [_], _ => rfl
  have F31 := fun_mk (st := s_Reader_take_arguments) l31 c31 k31
  have b31 := F31.binds (ps := P_Reader_take_arguments) fun _ _ _ _ _ _ us hl => match us, hl with | [_, _], _ => rfl
  have F32 := fun_mk (st := s_Desk_init) l32 c32 k32
  have b32 := F32.binds (ps := P_Desk_init) fun _ _ _ _ _ _ us hl => match us, hl with | [_], _ => rfl
  have F33 := fun_mk (st := s_Desk_answer) l33 c33 k33
  have b33 := F33.binds (ps := P_Desk_answer) fun _ _ _ _ _ _ us hl => match us, hl with | [_, _, _], _ => rfl
  have F34 := fun_mk (st := s_Desk_begin) l34 c34 k34
  have b34 := F34.binds (ps := P_Desk_begin) fun _ _ _ _ _ _ us hl => match us, hl with | [_, _, _, _], _ => rfl
  have F35 := fun_mk (st := s_answers) l35 c35 k35
  have b35 := F35.binds (ps := P_answers) fun _ _ _ _ _ _ us hl => match us, hl with | [_], _ => rfl
  have tup_SHAPES : TupOf K a_SHAPES [[2, 1], [1, 0], [0, 1], [0, 1], [1, 0], [1, 0], [0, 0]] := tupOf_mk (as := [p0_SHAPES, p1_SHAPES, p2_SHAPES, p3_SHAPES, p4_SHAPES, p5_SHAPES, p6_SHAPES]) w_SHAPES rfl rfl (by show 7 ≤ sizeLine; decide) fun i r p h1 h2 => by
    match i, h1, h2 with
    | 0, h1, h2 =>
      have e1 := Option.some.inj h1
      have e2 := Option.some.inj h2
      subst e1 e2
      exact ⟨_, _, _, _, w0_SHAPES, .cons ⟨_, rfl⟩ (.cons ⟨_, rfl⟩ (.nil)), by show 2 ≤ sizeLine; decide⟩
    | 1, h1, h2 =>
      have e1 := Option.some.inj h1
      have e2 := Option.some.inj h2
      subst e1 e2
      exact ⟨_, _, _, _, w1_SHAPES, .cons ⟨_, rfl⟩ (.cons ⟨_, rfl⟩ (.nil)), by show 2 ≤ sizeLine; decide⟩
    | 2, h1, h2 =>
      have e1 := Option.some.inj h1
      have e2 := Option.some.inj h2
      subst e1 e2
      exact ⟨_, _, _, _, w2_SHAPES, .cons ⟨_, rfl⟩ (.cons ⟨_, rfl⟩ (.nil)), by show 2 ≤ sizeLine; decide⟩
    | 3, h1, h2 =>
      have e1 := Option.some.inj h1
      have e2 := Option.some.inj h2
      subst e1 e2
      exact ⟨_, _, _, _, w3_SHAPES, .cons ⟨_, rfl⟩ (.cons ⟨_, rfl⟩ (.nil)), by show 2 ≤ sizeLine; decide⟩
    | 4, h1, h2 =>
      have e1 := Option.some.inj h1
      have e2 := Option.some.inj h2
      subst e1 e2
      exact ⟨_, _, _, _, w4_SHAPES, .cons ⟨_, rfl⟩ (.cons ⟨_, rfl⟩ (.nil)), by show 2 ≤ sizeLine; decide⟩
    | 5, h1, h2 =>
      have e1 := Option.some.inj h1
      have e2 := Option.some.inj h2
      subst e1 e2
      exact ⟨_, _, _, _, w5_SHAPES, .cons ⟨_, rfl⟩ (.cons ⟨_, rfl⟩ (.nil)), by show 2 ≤ sizeLine; decide⟩
    | 6, h1, h2 =>
      have e1 := Option.some.inj h1
      have e2 := Option.some.inj h2
      subst e1 e2
      exact ⟨_, _, _, _, w6_SHAPES, .cons ⟨_, rfl⟩ (.cons ⟨_, rfl⟩ (.nil)), by show 2 ≤ sizeLine; decide⟩
    | n + 7, h1, _ => cases h1
  exact ⟨⟨f_number_from, _, f_octets_from, _, f_turned, _, f_Mixer_init, _, f_Mixer_mix_once, _, f_Mixer_mix, _, f_Mixer_take_in, _, f_Mixer_finish, _, f_words_of, _, f_tag_of, _, f_Card_init, _, f_is_for_room, _, f_has_place, _, f_is_card, _, f_may_begin, _, f_Door_init, _, f_Door_move_day, _, f_Door_set_bolt, _, f_Door_would_answer, _, f_Door_show, _, f_Door_judge, _, f_Door_is_meant, _, f_Door_newest, _, f_Door_learn, _, f_Door_write_down, _, f_Door_entry, _, f_Door_state, _, f_Reader_init, _, f_Reader_is_done, _, f_Reader_take_number, _, f_Reader_take_row, _, f_Reader_take_arguments, _, f_Desk_init, _, f_Desk_answer, _, f_Desk_begin, _, f_answers, _, C_Mixer, C_Card, C_Door, C_Reader, C_Desk⟩, ⟨F0,
    b0,
    PySem.W.mg_of X G a0,
    F1,
    b1,
    PySem.W.mg_of X G a1,
    F2,
    b2,
    PySem.W.mg_of X G a2,
    F3,
    b3,
    F4,
    b4,
    ⟨a4, i4, k4⟩,
    F5,
    b5,
    ⟨a5, i5, k5⟩,
    F6,
    b6,
    ⟨a6, i6, k6⟩,
    F7,
    b7,
    ⟨a7, i7, k7⟩,
    F8,
    b8,
    PySem.W.mg_of X G a8,
    F9,
    b9,
    PySem.W.mg_of X G a9,
    F10,
    b10,
    F11,
    b11,
    PySem.W.mg_of X G a11,
    F12,
    b12,
    PySem.W.mg_of X G a12,
    F13,
    b13,
    PySem.W.mg_of X G a13,
    F14,
    b14,
    PySem.W.mg_of X G a14,
    F15,
    b15,
    F16,
    b16,
    ⟨a16, i16, k16⟩,
    F17,
    b17,
    ⟨a17, i17, k17⟩,
    F18,
    b18,
    ⟨a18, i18, k18⟩,
    F19,
    b19,
    ⟨a19, i19, k19⟩,
    F20,
    b20,
    ⟨a20, i20, k20⟩,
    F21,
    b21,
    ⟨a21, i21, k21⟩,
    F22,
    b22,
    ⟨a22, i22, k22⟩,
    F23,
    b23,
    ⟨a23, i23, k23⟩,
    F24,
    b24,
    ⟨a24, i24, k24⟩,
    F25,
    b25,
    ⟨a25, i25, k25⟩,
    F26,
    b26,
    ⟨a26, i26, k26⟩,
    F27,
    b27,
    F28,
    b28,
    ⟨a28, i28, k28⟩,
    F29,
    b29,
    ⟨a29, i29, k29⟩,
    F30,
    b30,
    ⟨a30, i30, k30⟩,
    F31,
    b31,
    ⟨a31, i31, k31⟩,
    F32,
    b32,
    F33,
    b33,
    ⟨a33, i33, k33⟩,
    F34,
    b34,
    ⟨a34, i34, k34⟩,
    F35,
    b35,
    PySem.W.mg_of X G a35,
    ⟨pg_Mixer, hd_Mixer, po_Mixer, sa_Mixer⟩,
    ⟨mk_Mixer, a3, i3, kc_Mixer⟩,
    PySem.W.mg_of X G aC_Mixer,
    n_Mixer_a,
    n_Mixer_b,
    n_Mixer_c,
    n_Mixer_d,
    ⟨pg_Card, hd_Card, po_Card, sa_Card⟩,
    ⟨mk_Card, a10, i10, kc_Card⟩,
    PySem.W.mg_of X G aC_Card,
    n_Card_kind,
    n_Card_place,
    n_Card_number,
    n_Card_last,
    n_Card_serial,
    ⟨pg_Door, hd_Door, po_Door, sa_Door⟩,
    ⟨mk_Door, a15, i15, kc_Door⟩,
    PySem.W.mg_of X G aC_Door,
    n_Door_room,
    n_Door_zone,
    n_Door_key,
    n_Door_day,
    n_Door_learned_number,
    n_Door_learned_round,
    n_Door_bolted,
    n_Door_book,
    ⟨pg_Reader, hd_Reader, po_Reader, sa_Reader⟩,
    ⟨mk_Reader, a27, i27, kc_Reader⟩,
    PySem.W.mg_of X G aC_Reader,
    n_Reader_calls,
    n_Reader_at,
    ⟨pg_Desk, hd_Desk, po_Desk, sa_Desk⟩,
    ⟨mk_Desk, a32, i32, kc_Desk⟩,
    PySem.W.mg_of X G aC_Desk,
    n_Desk_door,
    ⟨_, PySem.W.mg_of X G v_MASK⟩,
    ⟨_, PySem.W.mg_of X G v_GUEST⟩,
    ⟨_, PySem.W.mg_of X G v_STAFF⟩,
    ⟨_, PySem.W.mg_of X G v_SHUTTING⟩,
    ⟨_, PySem.W.mg_of X G v_EMERGENCY⟩,
    ⟨_, PySem.W.mg_of X G v_CARD_LENGTH⟩,
    ⟨_, PySem.W.mg_of X G v_LAST_ROOM⟩,
    ⟨_, PySem.W.mg_of X G v_EVERY_ZONE⟩,
    ⟨_, PySem.W.mg_of X G v_KEY_LENGTH⟩,
    ⟨_, PySem.W.mg_of X G v_LAST_ZONE⟩,
    ⟨_, PySem.W.mg_of X G v_LAST_DAY⟩,
    ⟨_, PySem.W.mg_of X G v_BOOK_LENGTH⟩,
    ⟨_, PySem.W.mg_of X G v_DONE⟩,
    ⟨_, PySem.W.mg_of X G v_NO_ENTRY⟩,
    ⟨_, PySem.W.mg_of X G v_ELSEWHERE⟩,
    ⟨_, PySem.W.mg_of X G v_BOLTED⟩,
    ⟨_, PySem.W.mg_of X G v_OLDER⟩,
    ⟨_, PySem.W.mg_of X G v_WRONG_VALUE⟩,
    ⟨_, PySem.W.mg_of X G v_OVER⟩,
    ⟨_, PySem.W.mg_of X G v_NOT_A_CARD⟩,
    ⟨_, PySem.W.mg_of X G v_BEGIN⟩,
    ⟨_, PySem.W.mg_of X G v_DAY⟩,
    ⟨_, PySem.W.mg_of X G v_OPEN⟩,
    ⟨_, PySem.W.mg_of X G v_WOULD⟩,
    ⟨_, PySem.W.mg_of X G v_BOLT⟩,
    ⟨_, PySem.W.mg_of X G v_BOOK⟩,
    ⟨_, PySem.W.mg_of X G v_SHAPES, tup_SHAPES⟩,
    ⟨_, PySem.W.mg_of X G v_NO_DOOR⟩,
    PySem.W.mg_none_of X G z_reversed,
    PySem.W.mg_none_of X G z_range,
    PySem.W.mg_none_of X G z_len,
    PySem.W.mg_none_of X G z_list⟩, PySem.W.mg_of X G a35, fun s us hu => match us, hu with | [_], _ => .of_eq rfl⟩
end LD

set_option maxRecDepth 100000
set_option maxHeartbeats 4000000
namespace LD
open PySem PySem.Spec PyProof.Rows L2
open PySem.W (Codec)
/-! ### the end -/
section
theorem fin_F {P : Program} {w : World} {K : PySem.W.Frag} {h : Heap} {mg : Str → Option Value} {fa : Addr} (hmg : mg "answers" = some (.ref fa))
    (hA : ∃ A : Ad, Txt K mg A ∧ mg "answers" = some (.ref A.f_answers) ∧ ∀ (s : Shared) (us : List Value), us.length = (P_answers : List Str).length → BindsTo s A.d_answers ⟨us, []⟩ ((P_answers : List Str).zip us)) :
    ∃ fd : FuncData, (∀ (s : Shared) (us : List Value), us.length = (P_answers : List Str).length → BindsTo s fd ⟨us, []⟩ ((P_answers : List Str).zip us)) ∧ ∀ base : Heap, K.In base → base.Ns mainGlobals mg → FnOk P w K mg base CX0 12 fa fd P_answers (spAns K) := by
  obtain ⟨A, T, e, b⟩ := hA
  have e' : some (Value.ref A.f_answers) = some (.ref fa) := e.symm.trans hmg
  injection e' with e'
  injection e' with e'
  subst e'
  exact ⟨A.d_answers, b, fun base _ _ => ok_answers T T.k_SHAPES (ok_answer T)⟩
end
end LD

set_option maxRecDepth 100000
set_option maxHeartbeats 4000000
namespace LD
open PySem PySem.Spec PyProof.Rows L2
open PySem.W (Codec)
end LD
open PySem PySem.W PyProof.Rows
set_option maxRecDepth 100000 in
set_option maxHeartbeats 16000000 in
theorem PySem.Challenge.cw_learningdoor_s01_answers_holds : PySem.Challenge.rw_learningdoor_s01_answers.Holds := by
  w_on; k_headS; (case hw => exact ⟨[.list [.int 6]], by decide +kernel, by decide +kernel⟩)
  k_fillS
  refine L2.walk_specK (r := PySem.Challenge.rw_learningdoor_s01_answers) (k := 12) (CX := L2.CX0) (ps := LD.P_answers) (sp := LD.spAns) (by decide +kernel) rfl rfl ⟨rfl, by decide, by decide⟩ (fun w h Y => PySem.W.kIn_of Y) ?F ?S (fun _ _ _ _ z => z)
  case F =>
    intro w mg fa h Y KX G hmg
    refine LD.fin_F (h := h) hmg ?_
    refine' LD.all_mk KX G ?aC_Mixer ?aC_Card ?aC_Door ?aC_Reader ?aC_Desk ?a0 ?l0 ?c0 ?k0 ?a1 ?l1 ?c1 ?k1 ?a2 ?l2 ?c2 ?k2 ?a3 ?i3 ?l3 ?c3 ?k3 ?a4 ?i4 ?l4 ?c4 ?k4 ?a5 ?i5 ?l5 ?c5 ?k5 ?a6 ?i6 ?l6 ?c6 ?k6 ?a7 ?i7 ?l7 ?c7 ?k7 ?a8 ?l8 ?c8 ?k8 ?a9 ?l9 ?c9 ?k9 ?a10 ?i10 ?l10 ?c10 ?k10 ?a11 ?l11 ?c11 ?k11 ?a12 ?l12 ?c12 ?k12 ?a13 ?l13 ?c13 ?k13 ?a14 ?l14 ?c14 ?k14 ?a15 ?i15 ?l15 ?c15 ?k15 ?a16 ?i16 ?l16 ?c16 ?k16 ?a17 ?i17 ?l17 ?c17 ?k17 ?a18 ?i18 ?l18 ?c18 ?k18 ?a19 ?i19 ?l19 ?c19 ?k19 ?a20 ?i20 ?l20 ?c20 ?k20 ?a21 ?i21 ?l21 ?c21 ?k21 ?a22 ?i22 ?l22 ?c22 ?k22 ?a23 ?i23 ?l23 ?c23 ?k23 ?a24 ?i24 ?l24 ?c24 ?k24 ?a25 ?i25 ?l25 ?c25 ?k25 ?a26 ?i26 ?l26 ?c26 ?k26 ?a27 ?i27 ?l27 ?c27 ?k27 ?a28 ?i28 ?l28 ?c28 ?k28 ?a29 ?i29 ?l29 ?c29 ?k29 ?a30 ?i30 ?l30 ?c30 ?k30 ?a31 ?i31 ?l31 ?c31 ?k31 ?a32 ?i32 ?l32 ?c32 ?k32 ?a33 ?i33 ?l33 ?c33 ?k33 ?a34 ?i34 ?l34 ?c34 ?k34 ?a35 ?l35 ?c35 ?k35 ?pg_Mixer ?hd_Mixer ?po_Mixer ?sa_Mixer ?mk_Mixer ?kc_Mixer ?n_Mixer_a ?n_Mixer_b ?n_Mixer_c ?n_Mixer_d ?pg_Card ?hd_Card ?po_Card ?sa_Card ?mk_Card ?kc_Card ?n_Card_kind ?n_Card_place ?n_Card_number ?n_Card_last ?n_Card_serial ?pg_Door ?hd_Door ?po_Door ?sa_Door ?mk_Door ?kc_Door ?n_Door_room ?n_Door_zone ?n_Door_key ?n_Door_day ?n_Door_learned_number ?n_Door_learned_round ?n_Door_bolted ?n_Door_book ?pg_Reader ?hd_Reader ?po_Reader ?sa_Reader ?mk_Reader ?kc_Reader ?n_Reader_calls ?n_Reader_at ?pg_Desk ?hd_Desk ?po_Desk ?sa_Desk ?mk_Desk ?kc_Desk ?n_Desk_door ?v_MASK ?v_GUEST ?v_STAFF ?v_SHUTTING ?v_EMERGENCY ?v_CARD_LENGTH ?v_LAST_ROOM ?v_EVERY_ZONE ?v_KEY_LENGTH ?v_LAST_ZONE ?v_LAST_DAY ?v_BOOK_LENGTH ?v_DONE ?v_NO_ENTRY ?v_ELSEWHERE ?v_BOLTED ?v_OLDER ?v_WRONG_VALUE ?v_OVER ?v_NOT_A_CARD ?v_BEGIN ?v_DAY ?v_OPEN ?v_WOULD ?v_BOLT ?v_BOOK ?v_SHAPES ?w_SHAPES ?w0_SHAPES ?w1_SHAPES ?w2_SHAPES ?w3_SHAPES ?w4_SHAPES ?w5_SHAPES ?w6_SHAPES ?v_NO_DOOR ?z_reversed ?z_range ?z_len ?z_list
    (case aC_Mixer => k_is)
    (case aC_Card => k_is)
    (case aC_Door => k_is)
    (case aC_Reader => k_is)
    (case aC_Desk => k_is)
    (case a0 => k_is)
    (case l0 => k_is)
    (case c0 => k_is)
    (case k0 => k_is)
    (case a1 => k_is)
    (case l1 => k_is)
    (case c1 => k_is)
    (case k1 => k_is)
    (case a2 => k_is)
    (case l2 => k_is)
    (case c2 => k_is)
    (case k2 => k_is)
    (case a3 => k_is)
    (case i3 => k_is)
    (case l3 => k_is)
    (case c3 => k_is)
    (case k3 => k_is)
    (case a4 => k_is)
    (case i4 => k_is)
    (case l4 => k_is)
    (case c4 => k_is)
    (case k4 => k_is)
    (case a5 => k_is)
    (case i5 => k_is)
    (case l5 => k_is)
    (case c5 => k_is)
    (case k5 => k_is)
    (case a6 => k_is)
    (case i6 => k_is)
    (case l6 => k_is)
    (case c6 => k_is)
    (case k6 => k_is)
    (case a7 => k_is)
    (case i7 => k_is)
    (case l7 => k_is)
    (case c7 => k_is)
    (case k7 => k_is)
    (case a8 => k_is)
    (case l8 => k_is)
    (case c8 => k_is)
    (case k8 => k_is)
    (case a9 => k_is)
    (case l9 => k_is)
    (case c9 => k_is)
    (case k9 => k_is)
    (case a10 => k_is)
    (case i10 => k_is)
    (case l10 => k_is)
    (case c10 => k_is)
    (case k10 => k_is)
    (case a11 => k_is)
    (case l11 => k_is)
    (case c11 => k_is)
    (case k11 => k_is)
    (case a12 => k_is)
    (case l12 => k_is)
    (case c12 => k_is)
    (case k12 => k_is)
    (case a13 => k_is)
    (case l13 => k_is)
    (case c13 => k_is)
    (case k13 => k_is)
    (case a14 => k_is)
    (case l14 => k_is)
    (case c14 => k_is)
    (case k14 => k_is)
    (case a15 => k_is)
    (case i15 => k_is)
    (case l15 => k_is)
    (case c15 => k_is)
    (case k15 => k_is)
    (case a16 => k_is)
    (case i16 => k_is)
    (case l16 => k_is)
    (case c16 => k_is)
    (case k16 => k_is)
    (case a17 => k_is)
    (case i17 => k_is)
    (case l17 => k_is)
    (case c17 => k_is)
    (case k17 => k_is)
    (case a18 => k_is)
    (case i18 => k_is)
    (case l18 => k_is)
    (case c18 => k_is)
    (case k18 => k_is)
    (case a19 => k_is)
    (case i19 => k_is)
    (case l19 => k_is)
    (case c19 => k_is)
    (case k19 => k_is)
    (case a20 => k_is)
    (case i20 => k_is)
    (case l20 => k_is)
    (case c20 => k_is)
    (case k20 => k_is)
    (case a21 => k_is)
    (case i21 => k_is)
    (case l21 => k_is)
    (case c21 => k_is)
    (case k21 => k_is)
    (case a22 => k_is)
    (case i22 => k_is)
    (case l22 => k_is)
    (case c22 => k_is)
    (case k22 => k_is)
    (case a23 => k_is)
    (case i23 => k_is)
    (case l23 => k_is)
    (case c23 => k_is)
    (case k23 => k_is)
    (case a24 => k_is)
    (case i24 => k_is)
    (case l24 => k_is)
    (case c24 => k_is)
    (case k24 => k_is)
    (case a25 => k_is)
    (case i25 => k_is)
    (case l25 => k_is)
    (case c25 => k_is)
    (case k25 => k_is)
    (case a26 => k_is)
    (case i26 => k_is)
    (case l26 => k_is)
    (case c26 => k_is)
    (case k26 => k_is)
    (case a27 => k_is)
    (case i27 => k_is)
    (case l27 => k_is)
    (case c27 => k_is)
    (case k27 => k_is)
    (case a28 => k_is)
    (case i28 => k_is)
    (case l28 => k_is)
    (case c28 => k_is)
    (case k28 => k_is)
    (case a29 => k_is)
    (case i29 => k_is)
    (case l29 => k_is)
    (case c29 => k_is)
    (case k29 => k_is)
    (case a30 => k_is)
    (case i30 => k_is)
    (case l30 => k_is)
    (case c30 => k_is)
    (case k30 => k_is)
    (case a31 => k_is)
    (case i31 => k_is)
    (case l31 => k_is)
    (case c31 => k_is)
    (case k31 => k_is)
    (case a32 => k_is)
    (case i32 => k_is)
    (case l32 => k_is)
    (case c32 => k_is)
    (case k32 => k_is)
    (case a33 => k_is)
    (case i33 => k_is)
    (case l33 => k_is)
    (case c33 => k_is)
    (case k33 => k_is)
    (case a34 => k_is)
    (case i34 => k_is)
    (case l34 => k_is)
    (case c34 => k_is)
    (case k34 => k_is)
    (case a35 => k_is)
    (case l35 => k_is)
    (case c35 => k_is)
    (case k35 => k_is)
    (case pg_Mixer => k_is)
    (case hd_Mixer => k_is)
    (case po_Mixer => k_is)
    (case sa_Mixer => k_is)
    (case mk_Mixer => k_is)
    (case kc_Mixer => k_is)
    (case n_Mixer_a => k_is)
    (case n_Mixer_b => k_is)
    (case n_Mixer_c => k_is)
    (case n_Mixer_d => k_is)
    (case pg_Card => k_is)
    (case hd_Card => k_is)
    (case po_Card => k_is)
    (case sa_Card => k_is)
    (case mk_Card => k_is)
    (case kc_Card => k_is)
    (case n_Card_kind => k_is)
    (case n_Card_place => k_is)
    (case n_Card_number => k_is)
    (case n_Card_last => k_is)
    (case n_Card_serial => k_is)
    (case pg_Door => k_is)
    (case hd_Door => k_is)
    (case po_Door => k_is)
    (case sa_Door => k_is)
    (case mk_Door => k_is)
    (case kc_Door => k_is)
    (case n_Door_room => k_is)
    (case n_Door_zone => k_is)
    (case n_Door_key => k_is)
    (case n_Door_day => k_is)
    (case n_Door_learned_number => k_is)
    (case n_Door_learned_round => k_is)
    (case n_Door_bolted => k_is)
    (case n_Door_book => k_is)
    (case pg_Reader => k_is)
    (case hd_Reader => k_is)
    (case po_Reader => k_is)
    (case sa_Reader => k_is)
    (case mk_Reader => k_is)
    (case kc_Reader => k_is)
    (case n_Reader_calls => k_is)
    (case n_Reader_at => k_is)
    (case pg_Desk => k_is)
    (case hd_Desk => k_is)
    (case po_Desk => k_is)
    (case sa_Desk => k_is)
    (case mk_Desk => k_is)
    (case kc_Desk => k_is)
    (case n_Desk_door => k_is)
    (case v_MASK => k_is)
    (case v_GUEST => k_is)
    (case v_STAFF => k_is)
    (case v_SHUTTING => k_is)
    (case v_EMERGENCY => k_is)
    (case v_CARD_LENGTH => k_is)
    (case v_LAST_ROOM => k_is)
    (case v_EVERY_ZONE => k_is)
    (case v_KEY_LENGTH => k_is)
    (case v_LAST_ZONE => k_is)
    (case v_LAST_DAY => k_is)
    (case v_BOOK_LENGTH => k_is)
    (case v_DONE => k_is)
    (case v_NO_ENTRY => k_is)
    (case v_ELSEWHERE => k_is)
    (case v_BOLTED => k_is)
    (case v_OLDER => k_is)
    (case v_WRONG_VALUE => k_is)
    (case v_OVER => k_is)
    (case v_NOT_A_CARD => k_is)
    (case v_BEGIN => k_is)
    (case v_DAY => k_is)
    (case v_OPEN => k_is)
    (case v_WOULD => k_is)
    (case v_BOLT => k_is)
    (case v_BOOK => k_is)
    (case v_SHAPES => k_is)
    (case w_SHAPES => k_is)
    (case w0_SHAPES => k_is)
    (case w1_SHAPES => k_is)
    (case w2_SHAPES => k_is)
    (case w3_SHAPES => k_is)
    (case w4_SHAPES => k_is)
    (case w5_SHAPES => k_is)
    (case w6_SHAPES => k_is)
    (case v_NO_DOOR => k_is)
    (case z_reversed => k_is)
    (case z_range => k_is)
    (case z_len => k_is)
    (case z_list => k_is)
  case S =>
    intro K H xs a hO hwi hask hx
    cases hx with
    | cons h1 h2 =>
      cases h2
      cases h1 with
      | lst hs ha =>
        have e := L2.ints_dw a.1 _ ha
        subst e
        have q : ((Codec.inLen 0 31000 a.1 && a.1.all (Codec.inInt 0 4294967295)) && true) = true := hwi
        rw [Bool.and_eq_true, Bool.and_eq_true] at q
        exact ⟨_, a.1, rfl, hs, (Codec.inNat_iff.mp q.1.1).2, hask, fun H' p hp => .lst (L2.SqL.of hp) (L2.dw_ints _)⟩
#print axioms PySem.Challenge.cw_learningdoor_s01_answers_holds

