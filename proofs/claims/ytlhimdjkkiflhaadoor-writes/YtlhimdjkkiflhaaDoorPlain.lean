/-
  PLAIN MATHEMATICS of the program's and the document's functions: no dump, no walk.
-/
namespace Go.Loop
/-- '0' to '9' -/
def digB (c : Int) : Bool := decide (48 ≤ c ∧ c ≤ 57)
def letB (c : Int) : Bool := decide ((97 ≤ c ∧ c ≤ 122) ∨ (65 ≤ c ∧ c ≤ 90))
/-- one of + - * / < > = ? ! . _ -/
def signB (c : Int) : Bool := decide (c = 43 ∨ c = 45 ∨ c = 42 ∨ c = 47 ∨ c = 60 ∨ c = 62 ∨ c = 61 ∨ c = 63 ∨ c = 33 ∨ c = 46 ∨ c = 95)
def wordB (c : Int) : Bool := letB c || digB c || signB c

/-- a byte of a text, as Go's number -/
def byteI (c : UInt8) : Int := (c.toNat : Int)
def hasB (l : List UInt8) (c : Int) : Bool := l.any fun b => decide ((b.toNat : Int) = c)
def wordU (c : UInt8) : Bool := wordB (c.toNat : Int)
/-- how many bytes at the head of a list are of a sort -/
def runL (p : Int → Bool) : List UInt8 → Nat
  | [] => 0
  | c :: r => if p (c.toNat : Int) then runL p r + 1 else 0
/-- a word that must be a number (the word is not empty) -/
def mustNum : List UInt8 → Bool
  | [] => false
  | c :: r => if c.toNat = 43 ∨ c.toNat = 45 then (match r with | [] => false | d :: _ => digB (d.toNat : Int)) else digB (c.toNat : Int)
def isSym (l : List UInt8) : Bool := !l.isEmpty && !(l == [46]) && !mustNum l && l.all wordU
theorem hasB_snoc (l : List UInt8) (b : UInt8) (c : Int) : hasB (l ++ [b]) c = (hasB l c || decide ((b.toNat : Int) = c)) := by simp [hasB]

/-- a number in lowest terms, within its bounds -/
def numB (n d : Int) : Bool := decide (1 ≤ d ∧ d ≤ 1000000 ∧ -1000000 ≤ n ∧ n ≤ 1000000 ∧ Int.gcd n d = 1)
theorem lowest_same (n d : Int) (hd : 1 ≤ d) : (d / ((Int.gcd n d : Nat) : Int) == d) = decide (Int.gcd n d = 1) := by
  have hp : 0 < Int.gcd n d := Int.gcd_pos_of_ne_zero_right _ (by omega)
  rw [Bool.eq_iff_iff, beq_iff_eq, decide_eq_true_iff]
  constructor
  · intro h
    by_cases h1 : Int.gcd n d = 1
    · exact h1
    · exfalso
      have h2 : (2 : Int) ≤ ((Int.gcd n d : Nat) : Int) := by omega
      have : d / ((Int.gcd n d : Nat) : Int) < d := Int.ediv_lt_self_of_pos_of_ne_one (by omega) (by omega)
      omega
  · intro h; rw [h]; simp
theorem lowest_same2 (n d : Int) (h : Int.gcd n d = 1) : n.tdiv ((Int.gcd n d : Nat) : Int) = n := by rw [h]; simp

theorem mustNum_plain (c : UInt8) (r : List UInt8) (h1 : ¬ (c.toNat : Int) = 43) (h2 : ¬ (c.toNat : Int) = 45) : mustNum (c :: r) = digB (c.toNat : Int) := by
  simp only [mustNum]; rw [if_neg (by omega)]
theorem mustNum_sign0 (c : UInt8) (h : (c.toNat : Int) = 43 ∨ (c.toNat : Int) = 45) : mustNum [c] = false := by
  simp only [mustNum]; rw [if_pos (by omega)]
theorem mustNum_sign1 (c d : UInt8) (r : List UInt8) (h : (c.toNat : Int) = 43 ∨ (c.toNat : Int) = 45) : mustNum (c :: d :: r) = digB (d.toNat : Int) := by
  simp only [mustNum]; rw [if_pos (by omega)]

theorem runL_all (p : Int → Bool) (l : List UInt8) : decide (runL p l = l.length) = l.all (fun c => p (c.toNat : Int)) := by
  induction l with
  | nil => rfl
  | cons c r ih =>
    simp only [runL, List.all_cons, List.length_cons]
    by_cases h : p (c.toNat : Int) = true
    · simp only [h, if_true, Bool.true_and, ← ih]; rw [Bool.eq_iff_iff]; simp
    · simp [h]
/-- the name of a character that has one -/
def nameOf (n : Int) : List UInt8 :=
  if n = 32 then [115, 112, 97, 99, 101] else if n = 10 then [110, 101, 119, 108, 105, 110, 101] else if n = 9 then [116, 97, 98]
  else if n = 0 then [110, 117, 108] else if n = 127 then [100, 101, 108, 101, 116, 101] else if n = 27 then [101, 115, 99, 97, 112, 101] else []
def hasName (n : Int) : Bool := decide (n = 32 ∨ n = 10 ∨ n = 9 ∨ n = 0 ∨ n = 127 ∨ n = 27)
def charB (n : Int) : Bool := hasName n || decide (33 ≤ n ∧ n ≤ 126)
def codeOf (l : List UInt8) : Int :=
  if l = [115, 112, 97, 99, 101] then 32 else if l = [110, 101, 119, 108, 105, 110, 101] then 10 else if l = [116, 97, 98] then 9
  else if l = [110, 117, 108] then 0 else if l = [100, 101, 108, 101, 116, 101] then 127 else if l = [101, 115, 99, 97, 112, 101] then 27 else -1
theorem nameOf_isEmpty (n : Int) : (nameOf n).isEmpty = !hasName n := by
  unfold nameOf hasName
  repeat' split
  all_goals simp_all
end Go.Loop
