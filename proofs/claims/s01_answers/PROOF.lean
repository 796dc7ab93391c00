import PyProof.Rows.All
import Wide.All
import OpenK.AllK
import Wide.FinOn
import KE.KDictKeyed
import PyProof.DictDisplay
import KE.KStateDown
import HandS.Head0
import HandS.Head1
import HandS.Head2
import KE.OsHead
import HandS.Spec
import HandS.Head4
import HandS.HeadHook1
import HandS.HeadHook2
import HandS.HeadHook3
import PySem.Challenge.RW_dayagreement_s01_answers
import HandS.ForSpec
import PyProof.EqAt
import PyProof.EqKinds
import PyProof.TupleCall
import KE.KExcInit
import PyProof.InstStoreFacts
import HandS.ForMost
import HandS.More
import HandS.Defaults
import HandS.ExcCtx
import HandS.HotCalls
import HandS.Words
import HandS.WordsExc
import HandS.Dict
import HandS.List
import HandS.Comp
import HandS.Text
import HandS.Wide
import HandS.TupAny
import HandS.Zip
import KE.GoesEnum
import HandS.Codes
import HandS.Rev
import HandS.IsInst
import HandS.FStr
import KE.KDictZip
import HandS.OwnEq
section
set_option linter.all false
/-! # Reading by goals on a stack, against the document's reading by recursion. Plain Lean. -/
namespace Mx
open Co01

/-- a goal: a token's kind or a rule's name; or a step to be made -/
inductive G where
  | sym (z : Bytes)
  | mk (w : Bytes)
  deriving DecidableEq
/-- what was read -/
inductive Made where
  | num (n : Nat)
  | name (b : Bytes)
  | exp (e : Exp)
  | cond (c : Cond)
  | ag (a : Ag)
  deriving DecidableEq

def kindOf : Tok → Bytes
  | .word w => if isName w = true then ascii "name" else w
  | .num _ => ascii "number"
  | .sign c => [c]
/-- the kind of the token that comes next -/
def kindAt : Rest → Bytes
  | [] => ascii "end"
  | x :: _ => kindOf x.2

abbrev s (z : String) : G := .sym (ascii z)
abbrev m (z : String) : G := .mk (ascii z)

/-- the goals of a rule, where the token that comes next tells which -/
def BYTOK : List ((Bytes × Bytes) × List G) :=
  [(("more sums", "or"), [s "or", s "sum", m "or", s "more sums"]),
   (("more sums", "else"), [s "else", s "sum", m "else", s "more sums"]),
   (("more parts", "and"), [s "and", s "part", m "and", s "more parts"]),
   (("part", "nothing"), [s "nothing", m "nothing"]),
   (("part", "pay"), [s "pay", s "expression", m "pay"]),
   (("part", "give"), [s "give", s "part", m "give"]),
   (("part", "at"), [s "at", s "number", s "part", m "at"]),
   (("part", "may"), [s "may", s "number", s "part", m "may"]),
   (("part", "if"), [s "if", s "condition", s "then", s "part", s "otherwise", s "part", m "if"]),
   (("part", "times"), [s "times", s "expression", s ":", s "part", m "times"]),
   (("part", "stop"), [s "stop", s "condition", s ":", s "part", m "stop"]),
   (("part", "("), [s "(", s "agreement", s ")"]),
   (("more products", "+"), [s "+", s "product", m "+", s "more products"]),
   (("more products", "-"), [s "-", s "product", m "-", s "more products"]),
   (("more factors", "*"), [s "*", s "factor", m "*", s "more factors"]),
   (("factor", "number"), [s "number", m "number"]),
   (("factor", "name"), [s "name", m "name"]),
   (("factor", "-"), [s "-", s "factor", m "negative"]),
   (("factor", "max"), [s "max", s "(", s "expression", s ",", s "expression", s ")", m "max"]),
   (("factor", "min"), [s "min", s "(", s "expression", s ",", s "expression", s ")", m "min"]),
   (("factor", "("), [s "(", s "expression", s ")"]),
   (("more conjunctions", "|"), [s "|", s "conjunction", m "|", s "more conjunctions"]),
   (("more tests", "&"), [s "&", s "test", m "&", s "more tests"]),
   (("test", "not"), [s "not", s "test", m "not"]),
   (("test", "["), [s "[", s "condition", s "]"]),
   (("comparison", "<"), [s "<", s "expression", m "<"]),
   (("comparison", "="), [s "=", s "expression", m "="]),
   (("comparison", ">"), [s ">", s "expression", m ">"])].map fun x => ((ascii x.1.1, ascii x.1.2), x.2)
def RULES : List (Bytes × List G) :=
  [("agreement", [s "sum", s "more sums"]), ("more sums", []), ("sum", [s "part", s "more parts"]), ("more parts", []),
   ("expression", [s "product", s "more products"]), ("more products", []), ("product", [s "factor", s "more factors"]), ("more factors", []),
   ("condition", [s "conjunction", s "more conjunctions"]), ("more conjunctions", []), ("conjunction", [s "test", s "more tests"]), ("more tests", []),
   ("test", [s "expression", s "comparison"])].map fun x => (ascii x.1, x.2)

/-- the steps for one goal: by a token, else by the rule alone -/
def byTok (g k : Bytes) : Option (List G) := BYTOK.lookup (g, k)
def byRule (g : Bytes) : Option (List G) := RULES.lookup g
def put (g k : Bytes) : Option (List G) := match byTok g k with
  | some l => some l
  | none => byRule g

/-- a step made of what was read last (the top of the stack first) -/
def make (w : Bytes) (l : List Made) : Option (List Made) :=
  if w = ascii "number" then (match l with | .num n :: l => some (.exp (.num n) :: l) | _ => none)
  else if w = ascii "name" then (match l with | .name n :: l => some (.exp (.name n) :: l) | _ => none)
  else if w = ascii "negative" then (match l with | .exp a :: l => some (.exp (.neg a) :: l) | _ => none)
  else if w = ascii "+" then (match l with | .exp b :: .exp a :: l => some (.exp (.add a b) :: l) | _ => none)
  else if w = ascii "-" then (match l with | .exp b :: .exp a :: l => some (.exp (.sub a b) :: l) | _ => none)
  else if w = ascii "*" then (match l with | .exp b :: .exp a :: l => some (.exp (.mul a b) :: l) | _ => none)
  else if w = ascii "max" then (match l with | .exp b :: .exp a :: l => some (.exp (.max a b) :: l) | _ => none)
  else if w = ascii "min" then (match l with | .exp b :: .exp a :: l => some (.exp (.min a b) :: l) | _ => none)
  else if w = ascii "<" then (match l with | .exp b :: .exp a :: l => some (.cond (.less a b) :: l) | _ => none)
  else if w = ascii "=" then (match l with | .exp b :: .exp a :: l => some (.cond (.same a b) :: l) | _ => none)
  else if w = ascii ">" then (match l with | .exp b :: .exp a :: l => some (.cond (.more a b) :: l) | _ => none)
  else if w = ascii "not" then (match l with | .cond a :: l => some (.cond (.not a) :: l) | _ => none)
  else if w = ascii "&" then (match l with | .cond b :: .cond a :: l => some (.cond (.and a b) :: l) | _ => none)
  else if w = ascii "|" then (match l with | .cond b :: .cond a :: l => some (.cond (.or a b) :: l) | _ => none)
  else if w = ascii "nothing" then some (.ag .nothing :: l)
  else if w = ascii "pay" then (match l with | .exp a :: l => some (.ag (.pay a) :: l) | _ => none)
  else if w = ascii "give" then (match l with | .ag a :: l => some (.ag (.give a) :: l) | _ => none)
  else if w = ascii "at" then (match l with | .ag a :: .num k :: l => some (.ag (.at_ k a) :: l) | _ => none)
  else if w = ascii "may" then (match l with | .ag a :: .num k :: l => some (.ag (.may k a) :: l) | _ => none)
  else if w = ascii "if" then (match l with | .ag b :: .ag a :: .cond c :: l => some (.ag (.if_ c a b) :: l) | _ => none)
  else if w = ascii "times" then (match l with | .ag a :: .exp e :: l => some (.ag (.times e a) :: l) | _ => none)
  else if w = ascii "stop" then (match l with | .ag a :: .cond c :: l => some (.ag (.halt_ c a) :: l) | _ => none)
  else if w = ascii "and" then (match l with | .ag b :: .ag a :: l => some (.ag (.both a b) :: l) | _ => none)
  else if w = ascii "or" then (match l with | .ag b :: .ag a :: l => some (.ag (.or a b) :: l) | _ => none)
  else if w = ascii "else" then (match l with | .ag b :: .ag a :: l => some (.ag (.else_ a b) :: l) | _ => none)
  else none

/-- the reader's state: goals (the next one first), what was made (the last first), the tokens that come -/
structure PS where
  goals : List G
  made : List Made
  toks : Rest
inductive Out where
  | next (p : PS)
  | fault (p : Nat)
  | stuck
/-- what a token puts on the stack -/
def valOf : Rest → List Made → List Made
  | (_, .word w) :: _, l => if isName w = true then .name w :: l else l
  | (_, .num n) :: _, l => .num n :: l
  | _, l => l
/-- one turn of the reader's loop; e: the text's length -/
def move (e : Nat) (p : PS) : Out := match p.goals with
  | [] => .stuck
  | .mk w :: gs => (match make w p.made with
    | some l => .next ⟨gs, l, p.toks⟩
    | none => .stuck)
  | .sym g :: gs => if g = kindAt p.toks then .next ⟨gs, valOf p.toks p.made, p.toks.tail⟩
    else match put g (kindAt p.toks) with
      | some l => .next ⟨l ++ gs, p.made, p.toks⟩
      | none => .fault (placeOf e p.toks)
/-- so many turns lead from p to q -/
inductive Goes (e : Nat) : Nat → PS → PS → Prop where
  | here (p : PS) : Goes e 0 p p
  | turn {n : Nat} {p q r : PS} (h : move e p = .next q) (g : Goes e n q r) : Goes e (n + 1) p r
/-- so many turns, then a fault at x -/
def Falls (e n : Nat) (p : PS) (x : Nat) : Prop := ∃ q, Goes e n p q ∧ move e q = .fault x

theorem Goes.trans {e n k : Nat} {p q r : PS} (a : Goes e n p q) (b : Goes e k q r) : Goes e (n + k) p r := by
  induction a with
  | here p => rw [Nat.zero_add]; exact b
  | turn h g ih => rw [Nat.add_right_comm]; exact .turn h (ih b)
theorem Goes.one {e : Nat} {p q : PS} (h : move e p = .next q) : Goes e 1 p q := .turn h (.here q)
theorem Goes.falls {e n k : Nat} {p q : PS} {x : Nat} (a : Goes e n p q) (b : Falls e k q x) : Falls e (n + k) p x :=
  let ⟨r, g, t⟩ := b
  ⟨r, a.trans g, t⟩
theorem Falls.now {e : Nat} {p : PS} {x : Nat} (h : move e p = .fault x) : Falls e 0 p x := ⟨p, .here p, h⟩
end Mx
end
section
set_option linter.all false
namespace Mx
open Co01

/-! ## tables by cases -/
def look : List (Bytes × List G) → Bytes → Option (List G)
  | [], _ => none
  | (a, x) :: l, k => if k = a then some x else look l k
theorem lookup_look : ∀ (l : List (Bytes × List G)) (k : Bytes), l.lookup k = look l k
  | [], _ => rfl
  | (a, x) :: l, k => by
    by_cases h : k = a
    · subst h; simp [List.lookup, look]
    · have : (k == a) = false := by simpa using h
      simp [List.lookup, look, h, this, lookup_look l k]
def only (g : Bytes) (l : List ((Bytes × Bytes) × List G)) : List (Bytes × List G) := l.filterMap fun x => if x.1.1 = g then some (x.1.2, x.2) else none
theorem lookup_only (g k : Bytes) : ∀ (l : List ((Bytes × Bytes) × List G)), l.lookup (g, k) = look (only g l) k
  | [] => rfl
  | ((a, b), x) :: l => by
    have ih := lookup_only g k l
    by_cases h : a = g
    · subst h
      have e : only a (((a, b), x) :: l) = (b, x) :: only a l := by simp [only]
      rw [e]
      by_cases hk : k = b
      · subst hk; simp [List.lookup, look]
      · have : ((a, k) == (a, b)) = false := by simpa using hk
        simp [List.lookup, look, hk, this, ih]
    · have e : only g (((a, b), x) :: l) = only g l := by simp [only, h]
      have : ((g, k) == (a, b)) = false := by
        simp only [beq_eq_false_iff_ne, ne_eq, Prod.mk.injEq, not_and]
        intro z; exact absurd z.symm h
      rw [e]
      simp [List.lookup, this, ih]
theorem byTok_look (g k : Bytes) : byTok g k = look (only g BYTOK) k := lookup_only g k BYTOK

/-! ## kinds -/
def isKind (k : Bytes) : Bool := k == ascii "name" || k == ascii "number" || k == ascii "end" || WORDS.contains k || k.length == 1
theorem kindOf_is : ∀ t : Tok, isKind (kindOf t) = true
  | .num n => by simp [isKind, kindOf]
  | .sign c => by simp [isKind, kindOf]
  | .word w => by
    by_cases h : isName w = true
    · simp [isKind, kindOf, h]
    · have q : WORDS.contains w = true := by
        unfold isName at h
        cases e : WORDS.contains w with
        | true => rfl
        | false => rw [e] at h; simp at h
      simp only [kindOf, h, if_neg, Bool.false_eq_true, if_false]
      simp only [isKind, q, Bool.or_true, Bool.true_or]
theorem kindAt_is : ∀ r : Rest, isKind (kindAt r) = true
  | [] => by decide
  | x :: _ => kindOf_is x.2
theorem not_kind {g : Bytes} (h : isKind g = false) (r : Rest) : g ≠ kindAt r := fun e => by
  rw [e, kindAt_is] at h; cases h
theorem words_not_name {w : Bytes} (h : isName w = false) : w ∈ WORDS := by
  unfold isName at h
  have : WORDS.contains w = true := by
    cases e : WORDS.contains w with
    | true => rfl
    | false => rw [e] at h; simp at h
  simpa using this
theorem words_len {w : Bytes} (h : w ∈ WORDS) : w ≠ ascii "name" ∧ w ≠ ascii "number" ∧ w ≠ ascii "end" ∧ 1 < w.length := by
  have : ∀ w ∈ WORDS, w ≠ ascii "name" ∧ w ≠ ascii "number" ∧ w ≠ ascii "end" ∧ 1 < w.length := by decide +kernel
  exact this w h
theorem isName_false {w : Bytes} (h : w ∈ WORDS) : isName w = false := by
  unfold isName
  have : WORDS.contains w = true := by simpa using h
  rw [this]; rfl
theorem isWord_iff {z : String} (h : ascii z ∈ WORDS) : ∀ r : Rest, isWord z r = true ↔ kindAt r = ascii z
  | [] => by
    have q := (words_len h).2.2.1
    simp [isWord, kindAt]; exact fun e => q e.symm
  | (p, .num n) :: t => by
    have q := (words_len h).2.1
    simp [isWord, kindAt, kindOf]; exact fun e => q e.symm
  | (p, .sign c) :: t => by
    have q := (words_len h).2.2.2
    simp only [isWord, kindAt, kindOf]
    constructor
    · intro e; cases e
    · intro e; rw [← e] at q; simp at q
  | (p, .word w) :: t => by
    have q := (words_len h).1
    simp only [isWord, kindAt, kindOf, beq_iff_eq]
    by_cases hn : isName w = true
    · rw [if_pos hn]
      constructor
      · intro e; subst e; rw [isName_false h] at hn; cases hn
      · intro e; exact absurd e.symm q
    · rw [if_neg hn]
theorem isSign_iff {z : String} (h : (ascii z).length = 1) : ∀ r : Rest, isSign z r = true ↔ kindAt r = ascii z
  | [] => by
    simp only [isSign, kindAt]
    constructor
    · intro e; cases e
    · intro e; rw [← e] at h; revert h; decide
  | (p, .num n) :: t => by
    simp only [isSign, kindAt, kindOf]
    constructor
    · intro e; cases e
    · intro e; rw [← e] at h; revert h; decide
  | (p, .sign c) :: t => by simp [isSign, kindAt, kindOf]
  | (p, .word w) :: t => by
    simp only [isSign, kindAt, kindOf]
    constructor
    · intro e; cases e
    · intro e
      by_cases hn : isName w = true
      · rw [if_pos hn] at e; rw [← e] at h; revert h; decide
      · rw [if_neg hn] at e
        have := (words_len (words_not_name (by simpa using hn))).2.2.2
        rw [e] at this; omega

/-! ## moves -/
section
variable {e : Nat} {g : Bytes} {gs : List G} {made : List Made} {r : Rest} {l : List G} {w : Bytes} {made' : List Made}
theorem mv_tok (h : kindAt r = g) : move e ⟨.sym g :: gs, made, r⟩ = .next ⟨gs, valOf r made, r.tail⟩ := by
  show (if g = kindAt r then _ else _) = _
  rw [if_pos h.symm]
theorem mv_rule (h : g ≠ kindAt r) (hp : put g (kindAt r) = some l) : move e ⟨.sym g :: gs, made, r⟩ = .next ⟨l ++ gs, made, r⟩ := by
  show (if g = kindAt r then _ else _) = _
  rw [if_neg h, hp]
theorem mv_fault (h : g ≠ kindAt r) (hp : put g (kindAt r) = none) : move e ⟨.sym g :: gs, made, r⟩ = .fault (placeOf e r) := by
  show (if g = kindAt r then _ else _) = _
  rw [if_neg h, hp]
theorem mv_mk (h : make w made = some made') : move e ⟨.mk w :: gs, made, r⟩ = .next ⟨gs, made', r⟩ := by
  show (match make w made with | some l => _ | none => _) = _
  rw [h]
end
/-- a token that is awaited and does not come -/
theorem mv_need {e : Nat} {g : Bytes} {gs : List G} {made : List Made} {r : Rest} (hp : ∀ k, put g k = none) (h : kindAt r ≠ g) : move e ⟨.sym g :: gs, made, r⟩ = .fault (placeOf e r) :=
  mv_fault (Ne.symm h) (hp _)

/-! ## names in the order of the tokens -/
def tokNames : Rest → List Bytes
  | [] => []
  | (_, .word w) :: r => if isName w = true then w :: tokNames r else tokNames r
  | _ :: r => tokNames r
theorem tokNames_tail {r : Rest} {z : String} (h : ascii z ∈ WORDS ∨ (ascii z).length = 1) (hk : kindAt r = ascii z) : tokNames r = tokNames r.tail ∧ (∀ made, valOf r made = made) ∧ r.tail.length + 1 = r.length := by
  cases r with
  | nil =>
    rcases h with h | h
    · exact absurd hk.symm (words_len h).2.2.1
    · rw [← hk] at h; exact absurd h (by decide)
  | cons x t =>
    obtain ⟨p, tk⟩ := x
    cases tk with
    | num n =>
      have hk' : ascii "number" = ascii z := hk
      rcases h with h | h
      · exact absurd hk'.symm (words_len h).2.1
      · rw [← hk'] at h; exact absurd h (by decide)
    | sign c => exact ⟨rfl, fun _ => rfl, rfl⟩
    | word w =>
      have hk' : (if isName w = true then ascii "name" else w) = ascii z := hk
      by_cases hn : isName w = true
      · rw [if_pos hn] at hk'
        rcases h with h | h
        · exact absurd hk'.symm (words_len h).1
        · rw [← hk'] at h; exact absurd h (by decide)
      · refine ⟨?_, fun made => ?_, rfl⟩
        · show (if isName w = true then _ else _) = _
          rw [if_neg hn]; rfl
        · show (if isName w = true then _ else _) = _
          rw [if_neg hn]

/-- what a reading gives: a thing and the rest; or a fault -/
def Res {α : Type} (e : Nat) (goal : Bytes) (pre : List Made) (inj : α → Made) (nms : α → List Bytes) (pn : List Bytes) (slack fslack strict : Nat) (r : Rest) : Except Nat (α × Rest) → Prop
  | .ok (x, r') => r'.length + strict ≤ r.length ∧ pn ++ tokNames r = nms x ++ tokNames r' ∧ ∃ n, n + slack + 20 * r'.length ≤ 20 * r.length + 1 ∧
      ∀ gs made, Goes e n ⟨.sym goal :: gs, pre ++ made, r⟩ ⟨gs, inj x :: made, r'⟩
  | .error p => ∃ n, n ≤ 20 * r.length + fslack ∧ ∀ gs made, Falls e n ⟨.sym goal :: gs, pre ++ made, r⟩ p
end Mx
end
section
set_option linter.all false
/-! # The calculus of goals: a rule's goals one by one, beside the document's reading -/
namespace Mx
open Co01

/-! ## names stay where they are: a thing of the machine alone -/
def mNames : Made → List Bytes
  | .num _ => []
  | .name b => [b]
  | .exp e => expNames e
  | .cond c => condNames c
  | .ag a => names a
def nm (l : List Made) (r : Rest) : List Bytes := l.reverse.flatMap mNames ++ tokNames r

/-! ## what the tables say -/
theorem put_of {g k : Bytes} {l : List G} (h : look (only g BYTOK) k = some l) : put g k = some l := by
  unfold put; rw [byTok_look, h]
theorem put_or {g k : Bytes} (h : look (only g BYTOK) k = none) : put g k = byRule g := by
  unfold put; rw [byTok_look, h]
section
variable {e : Nat} {gs : List G} {made : List Made} {r : Rest}
theorem mv_any {g : Bytes} {l : List G} (hk : isKind g = false) (h1 : only g BYTOK = []) (h2 : byRule g = some l) : move e ⟨.sym g :: gs, made, r⟩ = .next ⟨l ++ gs, made, r⟩ :=
  mv_rule (not_kind hk r) ((put_or (by rw [h1]; rfl)).trans h2)
theorem mv_by {g k : Bytes} {l : List G} (hk : isKind g = false) (hr : kindAt r = k) (h : look (only g BYTOK) k = some l) : move e ⟨.sym g :: gs, made, r⟩ = .next ⟨l ++ gs, made, r⟩ :=
  mv_rule (not_kind hk r) (by rw [hr]; exact put_of h)
theorem mv_else {g : Bytes} {l : List G} (hk : isKind g = false) (h : look (only g BYTOK) (kindAt r) = none) (h2 : byRule g = some l) : move e ⟨.sym g :: gs, made, r⟩ = .next ⟨l ++ gs, made, r⟩ :=
  mv_rule (not_kind hk r) ((put_or h).trans h2)
theorem mv_bad {g : Bytes} (hk : isKind g = false) (h : look (only g BYTOK) (kindAt r) = none) (h2 : byRule g = none) : move e ⟨.sym g :: gs, made, r⟩ = .fault (placeOf e r) :=
  mv_fault (not_kind hk r) ((put_or h).trans h2)
theorem mv_eat {z : String} (h : ascii z ∈ WORDS ∨ (ascii z).length = 1) (hk : kindAt r = ascii z) : move e ⟨.sym (ascii z) :: gs, made, r⟩ = .next ⟨gs, made, r.tail⟩ := by
  rw [mv_tok hk, (tokNames_tail h hk).2.1]
theorem mv_want {g : Bytes} (h1 : only g BYTOK = []) (h2 : byRule g = none) (h : kindAt r ≠ g) : move e ⟨.sym g :: gs, made, r⟩ = .fault (placeOf e r) :=
  mv_fault (Ne.symm h) ((put_or (by rw [h1]; rfl)).trans h2)
end

/-- goals one by one: to an end (what is made, what is left), or to a fault; how many turns at most -/
def Sq (e : Nat) (l : List G) (made : List Made) (r : Rest) (B F : Int) : Except Nat (List Made × Rest) → Prop
  | .ok x => ∀ gs, ∃ n : Nat, (n : Int) + 20 * x.2.length ≤ 20 * r.length + B ∧ Goes e n ⟨l ++ gs, made, r⟩ ⟨gs, x.1, x.2⟩
  | .error p => ∀ gs, ∃ n : Nat, (n : Int) ≤ 20 * r.length + F ∧ Falls e n ⟨l ++ gs, made, r⟩ p
/-- a rule's name: what is read by it -/
def Rs {α : Type} (e : Nat) (goal : Bytes) (pre : List Made) (inj : α → Made) (B F : Int) (r : Rest) : Except Nat (α × Rest) → Prop
  | .ok x => ∀ gs made, ∃ n : Nat, (n : Int) + 20 * x.2.length ≤ 20 * r.length + B ∧ Goes e n ⟨.sym goal :: gs, pre ++ made, r⟩ ⟨gs, inj x.1 :: made, x.2⟩
  | .error p => ∀ gs made, ∃ n : Nat, (n : Int) ≤ 20 * r.length + F ∧ Falls e n ⟨.sym goal :: gs, pre ++ made, r⟩ p
def out {α : Type} (inj : α → Made) (made : List Made) : Except Nat (α × Rest) → Except Nat (List Made × Rest)
  | .ok x => .ok (inj x.1 :: made, x.2)
  | .error p => .error p
theorem out_bind {α β : Type} (inj : α → Made) (made : List Made) (f : Except Nat β) (k : β → Except Nat (α × Rest)) : out inj made (f >>= k) = f >>= fun x => out inj made (k x) := by
  cases f <;> rfl
section
variable {α : Type} {e : Nat} {l : List G} {made : List Made} {r : Rest} {B F : Int}
theorem sq_nil (hB : 0 ≤ B) : Sq e [] made r B F (.ok (made, r)) := fun gs => ⟨0, by simp; omega, .here _⟩
theorem sq_mk {w : Bytes} {made' : List Made} {res : Except Nat (List Made × Rest)} (h : make w made = some made') (q : Sq e l made' r (B - 1) (F - 1) res) : Sq e (.mk w :: l) made r B F res := by
  cases res with
  | ok x =>
    intro gs
    obtain ⟨n, hn, H⟩ := q gs
    exact ⟨n + 1, by push_cast; omega, .turn (mv_mk h) H⟩
  | error p =>
    intro gs
    obtain ⟨n, hn, H⟩ := q gs
    exact ⟨1 + n, by push_cast; omega, (Goes.one (mv_mk h)).falls H⟩
theorem sq_eat {z : String} {res : Except Nat (List Made × Rest)} (hz : ascii z ∈ WORDS ∨ (ascii z).length = 1) (hk : kindAt r = ascii z) (q : Sq e l made r.tail (B + 19) (F + 19) res) : Sq e (.sym (ascii z) :: l) made r B F res := by
  have ht := (tokNames_tail hz hk).2.2
  cases res with
  | ok x =>
    intro gs
    obtain ⟨n, hn, H⟩ := q gs
    exact ⟨n + 1, by push_cast; omega, .turn (mv_eat hz hk) H⟩
  | error p =>
    intro gs
    obtain ⟨n, hn, H⟩ := q gs
    exact ⟨1 + n, by push_cast; omega, (Goes.one (mv_eat hz hk)).falls H⟩
theorem sq_fault {g : Bytes} (hm : ∀ gs, move e ⟨.sym g :: gs, made, r⟩ = .fault (placeOf e r)) (hF : -20 * (r.length : Int) ≤ F) : Sq e (.sym g :: l) made r B F (.error (placeOf e r)) :=
  fun gs => ⟨0, by simp; omega, Falls.now (hm _)⟩
theorem sq_sign {z : String} {k : Rest → Except Nat (List Made × Rest)} (hz : (ascii z).length = 1) (h1 : only (ascii z) BYTOK = []) (h2 : byRule (ascii z) = none) (hF : -20 * (r.length : Int) ≤ F)
    (q : kindAt r = ascii z → Sq e l made r.tail (B + 19) (F + 19) (k r.tail)) : Sq e (.sym (ascii z) :: l) made r B F (need (isSign z) e r >>= k) := by
  by_cases h : isSign z r = true
  · have hk := (isSign_iff hz r).mp h
    have e1 : need (isSign z) e r = .ok r.tail := if_pos h
    rw [e1]
    exact sq_eat (.inr hz) hk (q hk)
  · have e1 : need (isSign z) e r = .error (placeOf e r) := if_neg h
    rw [e1]
    exact sq_fault (fun gs => mv_want h1 h2 fun hk => h ((isSign_iff hz r).mpr hk)) hF
theorem sq_word {z : String} {k : Rest → Except Nat (List Made × Rest)} (hz : ascii z ∈ WORDS) (h1 : only (ascii z) BYTOK = []) (h2 : byRule (ascii z) = none) (hF : -20 * (r.length : Int) ≤ F)
    (q : kindAt r = ascii z → Sq e l made r.tail (B + 19) (F + 19) (k r.tail)) : Sq e (.sym (ascii z) :: l) made r B F (need (isWord z) e r >>= k) := by
  by_cases h : isWord z r = true
  · have hk := (isWord_iff hz r).mp h
    have e1 : need (isWord z) e r = .ok r.tail := if_pos h
    rw [e1]
    exact sq_eat (.inl hz) hk (q hk)
  · have e1 : need (isWord z) e r = .error (placeOf e r) := if_neg h
    rw [e1]
    exact sq_fault (fun gs => mv_want h1 h2 fun hk => h ((isWord_iff hz r).mpr hk)) hF
/-- what a rule read is no longer than what there was -/
theorem rs_len {g : Bytes} {pre : List Made} {inj : α → Made} {f : Except Nat (α × Rest)} {x : α × Rest} (h : Rs e g pre inj B F r f) (q : f = .ok x) : 20 * (x.2.length : Int) ≤ 20 * r.length + B := by
  subst q
  obtain ⟨n, hn, _⟩ := h [] []
  omega
theorem sq_nt {g : Bytes} {pre : List Made} {inj : α → Made} {B1 F1 B2 F2 : Int} {f1 : Except Nat (α × Rest)} {k : α × Rest → Except Nat (List Made × Rest)} (h1 : Rs e g pre inj B1 F1 r f1)
    (h2 : ∀ x, f1 = .ok x → 20 * (x.2.length : Int) ≤ 20 * r.length + B1 → Sq e l (inj x.1 :: made) x.2 B2 F2 (k x)) (c1 : B1 + B2 ≤ B) (c2 : F1 ≤ F) (c3 : B1 + F2 ≤ F) :
    Sq e (.sym g :: l) (pre ++ made) r B F (f1 >>= k) := by
  cases q : f1 with
  | error p =>
    rw [q] at h1
    intro gs
    obtain ⟨n, hn, H⟩ := h1 (l ++ gs) made
    exact ⟨n, by omega, H⟩
  | ok x =>
    have h2' := h2 x q (rs_len h1 q)
    rw [q] at h1
    show Sq e (.sym g :: l) (pre ++ made) r B F (k x)
    cases q2 : k x with
    | error p =>
      rw [q2] at h2'
      intro gs
      obtain ⟨n, hn, H⟩ := h1 (l ++ gs) made
      obtain ⟨n2, hn2, H2⟩ := h2' gs
      exact ⟨n + n2, by push_cast; omega, H.falls H2⟩
    | ok y =>
      rw [q2] at h2'
      intro gs
      obtain ⟨n, hn, H⟩ := h1 (l ++ gs) made
      obtain ⟨n2, hn2, H2⟩ := h2' gs
      exact ⟨n + n2, by push_cast; omega, H.trans H2⟩
/-- a rule whose goals are gone through -/
theorem rs_rule {g : Bytes} {pre : List Made} {inj : α → Made} {res : Except Nat (α × Rest)} (hm : ∀ gs made, move e ⟨.sym g :: gs, made, r⟩ = .next ⟨l ++ gs, made, r⟩) (q : ∀ made, Sq e l (pre ++ made) r (B - 1) (F - 1) (out inj made res)) :
    Rs e g pre inj B F r res := by
  cases res with
  | ok x =>
    intro gs made
    obtain ⟨n, hn, H⟩ := q made gs
    exact ⟨n + 1, by simp only [] at hn; push_cast; omega, .turn (hm gs _) H⟩
  | error p =>
    intro gs made
    obtain ⟨n, hn, H⟩ := q made gs
    exact ⟨1 + n, by push_cast; omega, (Goes.one (hm gs _)).falls H⟩
theorem rs_fault {g : Bytes} {pre : List Made} {inj : α → Made} (hm : ∀ gs made, move e ⟨.sym g :: gs, made, r⟩ = .fault (placeOf e r)) (hF : -20 * (r.length : Int) ≤ F) : Rs e g pre inj B F r (.error (placeOf e r)) :=
  fun gs made => ⟨0, by simp; omega, Falls.now (hm _ _)⟩
/-- two rules, the second with what the first made -/
theorem rs_two {β : Type} {g g1 g2 : Bytes} {inj1 : β → Made} {inj : α → Made} {B1 F1 B2 F2 : Int} {f1 : Except Nat (β × Rest)} {k : β × Rest → Except Nat (α × Rest)}
    (hm : ∀ gs made, move e ⟨.sym g :: gs, made, r⟩ = .next ⟨[.sym g1, .sym g2] ++ gs, made, r⟩) (h1 : Rs e g1 [] inj1 B1 F1 r f1)
    (h2 : ∀ x, f1 = .ok x → 20 * (x.2.length : Int) ≤ 20 * r.length + B1 → Rs e g2 [inj1 x.1] inj B2 F2 x.2 (k x)) (c1 : B1 + B2 + 1 ≤ B) (c2 : F1 + 1 ≤ F) (c3 : B1 + F2 + 1 ≤ F) : Rs e g [] inj B F r (f1 >>= k) := by
  refine rs_rule hm fun made => ?_
  rw [out_bind]
  refine sq_nt (pre := []) (B2 := B2) (F2 := F2) h1 (fun x hx hl => ?_) (by omega) (by omega) (by omega)
  have h := h2 x hx hl
  cases q : k x with
  | ok y =>
    rw [q] at h
    intro gs
    obtain ⟨n, hn, H⟩ := h gs made
    exact ⟨n, hn, H⟩
  | error p =>
    rw [q] at h
    intro gs
    obtain ⟨n, hn, H⟩ := h gs made
    exact ⟨n, hn, H⟩
/-- an operator, what it stands ahead of, and on -/
theorem rs_more {g g1 : Bytes} {z : String} {w : Bytes} {inj : α → Made} {op : α → α → α} {a : α} {B1 F1 F2 : Int} {f1 : Except Nat (α × Rest)} {k : α × Rest → Except Nat (α × Rest)} (hz : ascii z ∈ WORDS ∨ (ascii z).length = 1) (hk : kindAt r = ascii z)
    (hm : ∀ gs made, move e ⟨.sym g :: gs, made, r⟩ = .next ⟨[.sym (ascii z), .sym g1, .mk w, .sym g] ++ gs, made, r⟩) (hw : ∀ x l, make w (inj x :: inj a :: l) = some (inj (op a x) :: l)) (h1 : Rs e g1 [] inj B1 F1 r.tail f1)
    (h2 : ∀ x, f1 = .ok x → 20 * (x.2.length : Int) ≤ 20 * r.tail.length + B1 → Rs e g [inj (op a x.1)] inj 1 F2 x.2 (k x)) (c1 : B1 ≤ 0) (c2 : F1 ≤ F2) (c3 : F1 ≤ 10) (c4 : 0 ≤ F2) : Rs e g [inj a] inj 1 F2 r (f1 >>= k) := by
  refine rs_rule hm fun made => ?_
  rw [out_bind]
  refine sq_eat hz hk (sq_nt (pre := []) (B2 := 2) (F2 := F2 + 1) h1 (fun x hx hl => sq_mk (hw x.1 made) ?_) (by omega) (by omega) (by omega))
  have h := h2 x hx hl
  cases q : k x with
  | ok y =>
    rw [q] at h
    intro gs
    obtain ⟨n, hn, H⟩ := h gs made
    refine ⟨n, ?_, H⟩
    show (n : Int) + 20 * y.2.length ≤ _
    omega
  | error p =>
    rw [q] at h
    intro gs
    obtain ⟨n, hn, H⟩ := h gs made
    exact ⟨n, by omega, H⟩
/-- no operator comes -/
theorem rs_end {g : Bytes} {inj : α → Made} {a : α} {F2 : Int} (hm : ∀ gs made, move e ⟨.sym g :: gs, made, r⟩ = .next ⟨[] ++ gs, made, r⟩) : Rs e g [inj a] inj 1 F2 r (.ok (a, r)) :=
  rs_rule hm fun made => sq_nil (by omega)
end
end Mx
end
section
set_option linter.all false
/-! # Expressions: the goals read what the document reads -/
namespace Mx
open Co01
/-- the tables, for the goals of expressions -/
theorem only_mp : only (ascii "more products") BYTOK = [(ascii "+", [s "+", s "product", m "+", s "more products"]), (ascii "-", [s "-", s "product", m "-", s "more products"])] := by decide +kernel
theorem only_mf : only (ascii "more factors") BYTOK = [(ascii "*", [s "*", s "factor", m "*", s "more factors"])] := by decide +kernel
theorem only_f : only (ascii "factor") BYTOK = [(ascii "number", [s "number", m "number"]), (ascii "name", [s "name", m "name"]), (ascii "-", [s "-", s "factor", m "negative"]),
    (ascii "max", [s "max", s "(", s "expression", s ",", s "expression", s ")", m "max"]), (ascii "min", [s "min", s "(", s "expression", s ",", s "expression", s ")", m "min"]), (ascii "(", [s "(", s "expression", s ")"])] := by decide +kernel
theorem look_none {l : List (Bytes × List G)} {k : Bytes} (h : ∀ x ∈ l, k ≠ x.1) : look l k = none := by
  induction l with
  | nil => rfl
  | cons x l ih =>
    obtain ⟨a, y⟩ := x
    show (if k = a then _ else _) = _
    rw [if_neg (h (a, y) (by simp))]
    exact ih fun z hz => h z (by simp [hz])
theorem look_at {l : List (Bytes × List G)} {k : Bytes} {y : List G} (i : Nat) (h1 : l[i]? = some (k, y)) (h2 : (l.map (·.1)).Nodup) : look l k = some y := by
  induction l generalizing i with
  | nil => simp at h1
  | cons x l ih =>
    obtain ⟨a, z⟩ := x
    cases i with
    | zero =>
      simp at h1
      obtain ⟨rfl, rfl⟩ := h1
      show (if a = a then _ else _) = _
      rw [if_pos rfl]
    | succ i =>
      have h3 : l[i]? = some (k, y) := by simpa using h1
      rw [List.map_cons, List.nodup_cons] at h2
      have hne : k ≠ a := by
        rintro rfl
        exact h2.1 (List.mem_map.mpr ⟨(k, y), List.mem_of_getElem? h3, rfl⟩)
      show (if k = a then _ else _) = _
      rw [if_neg hne]
      exact ih i h3 h2.2
/-- a nonterminal's rule where the next token is of this kind -/
theorem mv_at {e : Nat} {g k : Bytes} {t : List (Bytes × List G)} {l : List G} {r : Rest} (ho : only g BYTOK = t) (i : Nat) (hi : t[i]? = some (k, l)) (hn : (t.map (·.1)).Nodup) (hg : isKind g = false) (hr : kindAt r = k) :
    ∀ (gs : List G) (made : List Made), move e ⟨.sym g :: gs, made, r⟩ = .next ⟨l ++ gs, made, r⟩ := fun gs made => mv_by hg hr (by rw [ho]; exact look_at i hi hn)

theorem not_sign {z : String} {r : Rest} (hz : (ascii z).length = 1) (h : ¬ isSign z r = true) : kindAt r ≠ ascii z := fun hk => h ((isSign_iff hz r).mpr hk)
theorem not_word {z : String} {r : Rest} (hz : ascii z ∈ WORDS) (h : ¬ isWord z r = true) : kindAt r ≠ ascii z := fun hk => h ((isWord_iff hz r).mpr hk)

theorem kind_word {p : Nat} {w : Bytes} {t : Rest} (h : w ∈ WORDS) : kindAt ((p, .word w) :: t) = w := by
  show (if isName w = true then _ else _) = _
  rw [if_neg (by rw [isName_false h]; simp)]
structure ER (e k : Nat) : Prop where
  ex : ∀ r, 4 * r.length + 3 ≤ k → Rs e (ascii "expression") [] .exp (-10) 2 r (expr e k 0 r)
  pr : ∀ r, 4 * r.length + 2 ≤ k → Rs e (ascii "product") [] .exp (-12) 1 r (expr e k 1 r)
  fa : ∀ r, 4 * r.length + 1 ≤ k → Rs e (ascii "factor") [] .exp (-14) 0 r (expr e k 2 r)
  mp : ∀ a r, 4 * r.length + 4 ≤ k → Rs e (ascii "more products") [.exp a] .exp 1 2 r (expr.sums e k a r)
  mf : ∀ a r, 4 * r.length + 4 ≤ k → Rs e (ascii "more factors") [.exp a] .exp 1 1 r (expr.products e k a r)
theorem mk_num (n : Nat) (l : List Made) : make (ascii "number") (.num n :: l) = some (.exp (.num n) :: l) := rfl
theorem mk_name (b : Bytes) (l : List Made) : make (ascii "name") (.name b :: l) = some (.exp (.name b) :: l) := rfl
theorem mk_neg (a : Exp) (l : List Made) : make (ascii "negative") (.exp a :: l) = some (.exp (.neg a) :: l) := rfl
theorem mk_add (a b : Exp) (l : List Made) : make (ascii "+") (.exp b :: .exp a :: l) = some (.exp (.add a b) :: l) := rfl
theorem mk_sub (a b : Exp) (l : List Made) : make (ascii "-") (.exp b :: .exp a :: l) = some (.exp (.sub a b) :: l) := rfl
theorem mk_mul (a b : Exp) (l : List Made) : make (ascii "*") (.exp b :: .exp a :: l) = some (.exp (.mul a b) :: l) := rfl
theorem mk_max (a b : Exp) (l : List Made) : make (ascii "max") (.exp b :: .exp a :: l) = some (.exp (.max a b) :: l) := rfl
theorem mk_min (a b : Exp) (l : List Made) : make (ascii "min") (.exp b :: .exp a :: l) = some (.exp (.min a b) :: l) := rfl
theorem er_all (e : Nat) : ∀ k, ER e k
  | 0 => ⟨fun r h => by omega, fun r h => by omega, fun r h => by omega, fun a r h => by omega, fun a r h => by omega⟩
  | k + 1 => by
    have ih := er_all e k
    refine ⟨fun r h => ?_, fun r h => ?_, fun r h => ?_, fun a r h => ?_, fun a r h => ?_⟩
    · -- expression
      rw [show expr e (k + 1) 0 r = (expr e k 1 r >>= fun x => expr.sums e k x.1 x.2) by rw [expr]]
      refine rs_two (fun gs made => mv_any (by decide +kernel) (by decide +kernel) (by decide +kernel)) (ih.pr r (by omega)) (fun x hx hl => ih.mp x.1 x.2 (by omega)) (by omega) (by omega) (by omega)
    · rw [show expr e (k + 1) 1 r = (expr e k 2 r >>= fun x => expr.products e k x.1 x.2) by rw [expr]]
      refine rs_two (fun gs made => mv_any (by decide +kernel) (by decide +kernel) (by decide +kernel)) (ih.fa r (by omega)) (fun x hx hl => ih.mf x.1 x.2 (by omega)) (by omega) (by omega) (by omega)
    · -- factor
      cases r with
      | nil =>
        rw [show expr e (k + 1) 2 [] = .error e by rw [expr] <;> simp]
        exact rs_fault (r := []) (fun gs made => mv_bad (by decide +kernel) (by rw [only_f]; decide +kernel) (by decide +kernel)) (by simp)
      | cons x t =>
        obtain ⟨p, tk⟩ := x
        cases tk with
        | num n =>
          rw [show expr e (k + 1) 2 ((p, .num n) :: t) = .ok (.num n, t) by rw [expr] <;> simp]
          refine rs_rule (mv_at only_f 0 rfl (by decide +kernel) (by decide +kernel) rfl) fun made => ?_
          intro gs
          refine ⟨2, by simp; omega, .turn (mv_tok rfl) (.turn (mv_mk (mk_num n made)) (.here _))⟩
        | sign c =>
          by_cases h1 : c = 45
          · subst h1
            rw [show expr e (k + 1) 2 ((p, .sign 45) :: t) = (expr e k 2 t >>= fun a => pure (.neg a.1, a.2)) by rw [expr] <;> simp]
            refine rs_rule (mv_at only_f 2 rfl (by decide +kernel) (by decide +kernel) rfl) fun made => ?_
            rw [out_bind]
            refine sq_eat (.inr (by decide +kernel)) rfl (sq_nt (pre := []) (B2 := 15) (F2 := 15) (ih.fa t (by simp at h; omega)) (fun x hx hl => sq_mk (mk_neg x.1 made) (sq_nil (by omega))) (by omega) (by omega) (by omega))
          · by_cases h2 : c = 40
            · subst h2
              rw [show expr e (k + 1) 2 ((p, .sign 40) :: t) = (expr e k 0 t >>= fun a => need (isSign ")") e a.2 >>= fun t => pure (a.1, t)) by rw [expr] <;> simp]
              refine rs_rule (mv_at only_f 5 rfl (by decide +kernel) (by decide +kernel) rfl) fun made => ?_
              rw [out_bind]
              refine sq_eat (.inr (by decide +kernel)) rfl (sq_nt (pre := []) (B2 := 0) (F2 := 0) (ih.ex t (by simp at h; omega)) (fun x hx hl => ?_) (by omega) (by omega) (by omega))
              rw [out_bind]
              refine sq_sign (by decide +kernel) (by decide +kernel) (by decide +kernel) (by omega) fun _ => sq_nil (by omega)
            · rw [show expr e (k + 1) 2 ((p, .sign c) :: t) = .error p by rw [expr] <;> simp [h1, h2]]
              refine rs_fault (r := (p, .sign c) :: t) (fun gs made => mv_bad (by decide +kernel) ?_ (by decide +kernel)) (by simp; omega)
              rw [only_f]
              refine look_none fun x hx => ?_
              show [c] ≠ x.1
              revert x
              intro x hx he
              simp only [List.mem_cons, List.not_mem_nil, or_false] at hx
              rcases hx with rfl | rfl | rfl | rfl | rfl | rfl
              · exact absurd (congrArg List.length he) (by simp [ascii])
              · exact absurd (congrArg List.length he) (by simp [ascii])
              · exact h1 (by simpa [ascii] using he)
              · exact absurd (congrArg List.length he) (by simp [ascii])
              · exact absurd (congrArg List.length he) (by simp [ascii])
              · exact h2 (by simpa [ascii] using he)
        | word w =>
          have tl : ∀ l : Rest, l.tail.length ≤ l.length := fun l => by rw [List.length_tail]; omega
          rw [show expr e (k + 1) 2 ((p, .word w) :: t) = (if w = ascii "max" ∨ w = ascii "min" then (need (isSign "(") e t >>= fun t => expr e k 0 t >>= fun a => need (isSign ",") e a.2 >>= fun t => expr e k 0 t >>= fun b => need (isSign ")") e b.2 >>= fun t =>
              pure (if w = ascii "max" then .max a.1 b.1 else .min a.1 b.1, t)) else if isName w = true then .ok (.name w, t) else .error p) by rw [expr] <;> simp]
          by_cases hmax : w = ascii "max"
          · subst hmax
            rw [if_pos (.inl rfl)]
            refine rs_rule (mv_at only_f 3 rfl (by decide +kernel) (by decide +kernel) (kind_word (by decide +kernel))) fun made => ?_
            rw [out_bind]
            refine sq_eat (.inl (by decide +kernel)) (kind_word (by decide +kernel)) (sq_sign (by decide +kernel) (by decide +kernel) (by decide +kernel) (by omega) fun _ => ?_)
            rw [out_bind]
            have t1 := tl t
            refine sq_nt (pre := []) (B2 := 33) (F2 := 40) (ih.ex _ (by simp at h t1 ⊢; omega)) (fun x hx hl => ?_) (by omega) (by omega) (by omega)
            rw [out_bind]
            refine sq_sign (by decide +kernel) (by decide +kernel) (by decide +kernel) (by omega) fun _ => ?_
            rw [out_bind]
            have t2 := tl x.2
            refine sq_nt (pre := []) (B2 := 62) (F2 := 60) (ih.ex _ (by simp at h t1 t2 hl ⊢; omega)) (fun y hy hl2 => ?_) (by omega) (by omega) (by omega)
            rw [out_bind]
            refine sq_sign (by decide +kernel) (by decide +kernel) (by decide +kernel) (by omega) fun _ => ?_
            exact sq_mk (mk_max x.1 y.1 made) (sq_nil (by omega))
          · by_cases hmin : w = ascii "min"
            · subst hmin
              rw [if_pos (.inr rfl)]
              refine rs_rule (mv_at only_f 4 rfl (by decide +kernel) (by decide +kernel) (kind_word (by decide +kernel))) fun made => ?_
              rw [out_bind]
              refine sq_eat (.inl (by decide +kernel)) (kind_word (by decide +kernel)) (sq_sign (by decide +kernel) (by decide +kernel) (by decide +kernel) (by omega) fun _ => ?_)
              rw [out_bind]
              have t1 := tl t
              refine sq_nt (pre := []) (B2 := 33) (F2 := 40) (ih.ex _ (by simp at h t1 ⊢; omega)) (fun x hx hl => ?_) (by omega) (by omega) (by omega)
              rw [out_bind]
              refine sq_sign (by decide +kernel) (by decide +kernel) (by decide +kernel) (by omega) fun _ => ?_
              rw [out_bind]
              have t2 := tl x.2
              refine sq_nt (pre := []) (B2 := 62) (F2 := 60) (ih.ex _ (by simp at h t1 t2 hl ⊢; omega)) (fun y hy hl2 => ?_) (by omega) (by omega) (by omega)
              rw [out_bind]
              refine sq_sign (by decide +kernel) (by decide +kernel) (by decide +kernel) (by omega) fun _ => ?_
              exact sq_mk (mk_min x.1 y.1 made) (sq_nil (by omega))
            · rw [if_neg (by rintro (q | q) <;> contradiction)]
              by_cases hn : isName w = true
              · rw [if_pos hn]
                have hk : kindAt ((p, .word w) :: t) = ascii "name" := by show (if isName w = true then _ else _) = _; rw [if_pos hn]
                refine rs_rule (mv_at only_f 1 rfl (by decide +kernel) (by decide +kernel) hk) fun made => ?_
                intro gs
                have hv : valOf ((p, .word w) :: t) made = .name w :: made := by show (if isName w = true then _ else _) = _; rw [if_pos hn]
                refine ⟨2, by simp; omega, .turn (mv_tok hk) ?_⟩
                rw [List.nil_append, hv]
                exact .turn (mv_mk (mk_name w made)) (.here _)
              · rw [if_neg hn]
                have hk : kindAt ((p, .word w) :: t) = w := by show (if isName w = true then _ else _) = _; rw [if_neg hn]
                have hw := words_not_name (by simpa using hn)
                refine rs_fault (r := (p, .word w) :: t) (fun gs made => mv_bad (by decide +kernel) ?_ (by decide +kernel)) (by simp; omega)
                rw [only_f, hk]
                have hwl := words_len hw
                refine look_none fun x hx => ?_
                simp only [List.mem_cons, List.not_mem_nil, or_false] at hx
                rcases hx with rfl | rfl | rfl | rfl | rfl | rfl
                · exact hwl.2.1
                · exact hwl.1
                · intro q; have := hwl.2.2.2; rw [q] at this; simp [ascii] at this
                · exact hmax
                · exact hmin
                · intro q; have := hwl.2.2.2; rw [q] at this; simp [ascii] at this
    · -- more products
      rw [show expr.sums e (k + 1) a r = (if isSign "+" r = true then (expr e k 1 r.tail >>= fun b => expr.sums e k (.add a b.1) b.2) else if isSign "-" r = true then (expr e k 1 r.tail >>= fun b => expr.sums e k (.sub a b.1) b.2) else .ok (a, r)) by rw [expr.sums]]
      by_cases h1 : isSign "+" r = true
      · rw [if_pos h1]
        have hk := (isSign_iff (z := "+") (by decide +kernel) r).mp h1
        have hl := (tokNames_tail (z := "+") (.inr (by decide +kernel)) hk).2.2
        refine rs_more (op := .add) (.inr (by decide +kernel)) hk (mv_at only_mp 0 (by decide +kernel) (by decide +kernel) (by decide +kernel) hk) (fun x l => mk_add a x l) (ih.pr r.tail (by omega)) (fun x hx hl => ih.mp _ x.2 (by omega)) (by omega) (by omega) (by omega) (by omega)
      · rw [if_neg h1]
        by_cases h2 : isSign "-" r = true
        · rw [if_pos h2]
          have hk := (isSign_iff (z := "-") (by decide +kernel) r).mp h2
          have hl := (tokNames_tail (z := "-") (.inr (by decide +kernel)) hk).2.2
          refine rs_more (op := .sub) (.inr (by decide +kernel)) hk (mv_at only_mp 1 (by decide +kernel) (by decide +kernel) (by decide +kernel) hk) (fun x l => mk_sub a x l) (ih.pr r.tail (by omega)) (fun x hx hl => ih.mp _ x.2 (by omega)) (by omega) (by omega) (by omega) (by omega)
        · rw [if_neg h2]
          have n1 := not_sign (z := "+") (by decide +kernel) h1
          have n2 := not_sign (z := "-") (by decide +kernel) h2
          exact rs_end fun gs made => mv_else (by decide +kernel) (by rw [only_mp]; exact look_none (by simp [n1, n2])) (by decide +kernel)
    · rw [show expr.products e (k + 1) a r = (if isSign "*" r = true then (expr e k 2 r.tail >>= fun b => expr.products e k (.mul a b.1) b.2) else .ok (a, r)) by rw [expr.products]]
      by_cases h1 : isSign "*" r = true
      · rw [if_pos h1]
        have hk := (isSign_iff (z := "*") (by decide +kernel) r).mp h1
        have hl := (tokNames_tail (z := "*") (.inr (by decide +kernel)) hk).2.2
        refine rs_more (op := .mul) (.inr (by decide +kernel)) hk (mv_at only_mf 0 (by decide +kernel) (by decide +kernel) (by decide +kernel) hk) (fun x l => mk_mul a x l) (ih.fa r.tail (by omega)) (fun x hx hl => ih.mf _ x.2 (by omega)) (by omega) (by omega) (by omega) (by omega)
      · rw [if_neg h1]
        have n1 := not_sign (z := "*") (by decide +kernel) h1
        exact rs_end fun gs made => mv_else (by decide +kernel) (by rw [only_mf]; exact look_none (by simp [n1])) (by decide +kernel)
end Mx
end
section
set_option linter.all false
/-! # Conditions and agreements -/
namespace Mx
open Co01
theorem sq_last {α : Type} {e : Nat} {g : Bytes} {pre made : List Made} {inj : α → Made} {B F : Int} {r : Rest} {res : Except Nat (α × Rest)} (h : Rs e g pre inj B F r res) : Sq e [.sym g] (pre ++ made) r B F (out inj made res) := by
  cases res with
  | ok x => exact fun gs => h gs made
  | error p => exact fun gs => h gs made
theorem sq_mono {e : Nat} {l : List G} {made : List Made} {r : Rest} {B F B' F' : Int} {res : Except Nat (List Made × Rest)} (h : Sq e l made r B F res) (hB : B ≤ B') (hF : F ≤ F') : Sq e l made r B' F' res := by
  cases res with
  | ok x => exact fun gs => let ⟨n, hn, H⟩ := h gs; ⟨n, by omega, H⟩
  | error p => exact fun gs => let ⟨n, hn, H⟩ := h gs; ⟨n, by omega, H⟩
theorem tl_len (l : Rest) : l.tail.length ≤ l.length := by rw [List.length_tail]; omega
theorem tl_word {z : String} (hz : ascii z ∈ WORDS) {r : Rest} (hk : kindAt r = ascii z) : r.tail.length + 1 = r.length := (tokNames_tail (.inl hz) hk).2.2
theorem tl_sign {z : String} (hz : (ascii z).length = 1) {r : Rest} (hk : kindAt r = ascii z) : r.tail.length + 1 = r.length := (tokNames_tail (.inr hz) hk).2.2

theorem only_mc : only (ascii "more conjunctions") BYTOK = [(ascii "|", [s "|", s "conjunction", m "|", s "more conjunctions"])] := by decide +kernel
theorem only_mt : only (ascii "more tests") BYTOK = [(ascii "&", [s "&", s "test", m "&", s "more tests"])] := by decide +kernel
theorem only_t : only (ascii "test") BYTOK = [(ascii "not", [s "not", s "test", m "not"]), (ascii "[", [s "[", s "condition", s "]"])] := by decide +kernel
theorem only_c : only (ascii "comparison") BYTOK = [(ascii "<", [s "<", s "expression", m "<"]), (ascii "=", [s "=", s "expression", m "="]), (ascii ">", [s ">", s "expression", m ">"])] := by decide +kernel
theorem mk_less (a b : Exp) (l : List Made) : make (ascii "<") (.exp b :: .exp a :: l) = some (.cond (.less a b) :: l) := rfl
theorem mk_same (a b : Exp) (l : List Made) : make (ascii "=") (.exp b :: .exp a :: l) = some (.cond (.same a b) :: l) := rfl
theorem mk_more (a b : Exp) (l : List Made) : make (ascii ">") (.exp b :: .exp a :: l) = some (.cond (.more a b) :: l) := rfl
theorem mk_not (a : Cond) (l : List Made) : make (ascii "not") (.cond a :: l) = some (.cond (.not a) :: l) := rfl
theorem mk_cand (a b : Cond) (l : List Made) : make (ascii "&") (.cond b :: .cond a :: l) = some (.cond (.and a b) :: l) := rfl
theorem mk_cor (a b : Cond) (l : List Made) : make (ascii "|") (.cond b :: .cond a :: l) = some (.cond (.or a b) :: l) := rfl
structure CR (e k : Nat) : Prop where
  co : ∀ r, 4 * r.length + 6 ≤ k → Rs e (ascii "condition") [] .cond (-10) 5 r (cond e k 0 r)
  cj : ∀ r, 4 * r.length + 5 ≤ k → Rs e (ascii "conjunction") [] .cond (-12) 4 r (cond e k 1 r)
  te : ∀ r, 4 * r.length + 4 ≤ k → Rs e (ascii "test") [] .cond (-14) 3 r (cond e k 2 r)
  mc : ∀ a r, 4 * r.length + 4 ≤ k → Rs e (ascii "more conjunctions") [.cond a] .cond 1 5 r (cond.ors e k a r)
  mt : ∀ a r, 4 * r.length + 4 ≤ k → Rs e (ascii "more tests") [.cond a] .cond 1 4 r (cond.ands e k a r)
/-- a comparison behind its left side -/
theorem comp_one {e k : Nat} (E : ER e k) {z : String} {i : Nat} {op : Exp → Exp → Cond} {a : Exp} {r : Rest} (hz : (ascii z).length = 1) (hk : kindAt r = ascii z) (hi : [(ascii "<", [s "<", s "expression", m "<"]), (ascii "=", [s "=", s "expression", m "="]), (ascii ">", [s ">", s "expression", m ">"])][i]? = some (ascii z, [.sym (ascii z), s "expression", .mk (ascii z)]))
    (hm : ∀ b l, make (ascii z) (.exp b :: .exp a :: l) = some (.cond (op a b) :: l)) (hf : 4 * r.length + 3 ≤ k) :
    Rs e (ascii "comparison") [.exp a] .cond (-20) 2 r (expr e k 0 r.tail >>= fun b => pure (op a b.1, b.2)) := by
  have hl := tl_sign hz hk
  refine rs_rule (mv_at only_c i hi (by decide +kernel) (by decide +kernel) hk) fun made => ?_
  rw [out_bind]
  refine sq_eat (.inr hz) hk (sq_nt (pre := []) (B2 := 8) (F2 := 8) (E.ex r.tail (by omega)) (fun x hx hl => sq_mk (hm x.1 made) (sq_nil (by omega))) (by omega) (by omega) (by omega))
theorem cr_all (e : Nat) : ∀ k, CR e k
  | 0 => ⟨fun r h => by omega, fun r h => by omega, fun r h => by omega, fun a r h => by omega, fun a r h => by omega⟩
  | k + 1 => by
    have ih := cr_all e k
    have E := er_all e k
    refine ⟨fun r h => ?_, fun r h => ?_, fun r h => ?_, fun a r h => ?_, fun a r h => ?_⟩
    · rw [show cond e (k + 1) 0 r = (cond e k 1 r >>= fun x => cond.ors e k x.1 x.2) by rw [Co01.cond]]
      refine rs_two (fun gs made => mv_any (by decide +kernel) (by decide +kernel) (by decide +kernel)) (ih.cj r (by omega)) (fun x hx hl => ih.mc x.1 x.2 (by omega)) (by omega) (by omega) (by omega)
    · rw [show cond e (k + 1) 1 r = (cond e k 2 r >>= fun x => cond.ands e k x.1 x.2) by rw [Co01.cond]]
      refine rs_two (fun gs made => mv_any (by decide +kernel) (by decide +kernel) (by decide +kernel)) (ih.te r (by omega)) (fun x hx hl => ih.mt x.1 x.2 (by omega)) (by omega) (by omega) (by omega)
    · rw [show cond e (k + 1) 2 r = (if isWord "not" r = true then (cond e k 2 r.tail >>= fun a => pure (.not a.1, a.2)) else if isSign "[" r = true then (cond e k 0 r.tail >>= fun a => need (isSign "]") e a.2 >>= fun t => pure (a.1, t))
          else (expr e k 0 r >>= fun a => if isSign "<" a.2 = true then (expr e k 0 a.2.tail >>= fun b => pure (.less a.1 b.1, b.2)) else if isSign "=" a.2 = true then (expr e k 0 a.2.tail >>= fun b => pure (.same a.1 b.1, b.2))
            else if isSign ">" a.2 = true then (expr e k 0 a.2.tail >>= fun b => pure (.more a.1 b.1, b.2)) else .error (placeOf e a.2))) by rw [Co01.cond] <;> simp]
      by_cases h1 : isWord "not" r = true
      · rw [if_pos h1]
        have hk := (isWord_iff (z := "not") (by decide +kernel) r).mp h1
        have hl := tl_word (z := "not") (by decide +kernel) hk
        refine rs_rule (mv_at only_t 0 rfl (by decide +kernel) (by decide +kernel) hk) fun made => ?_
        rw [out_bind]
        exact sq_eat (.inl (by decide +kernel)) hk (sq_nt (pre := []) (B2 := 15) (F2 := 15) (ih.te r.tail (by omega)) (fun x hx hl => sq_mk (mk_not x.1 made) (sq_nil (by omega))) (by omega) (by omega) (by omega))
      · rw [if_neg h1]
        by_cases h2 : isSign "[" r = true
        · rw [if_pos h2]
          have hk := (isSign_iff (z := "[") (by decide +kernel) r).mp h2
          have hl := tl_sign (z := "[") (by decide +kernel) hk
          refine rs_rule (mv_at only_t 1 rfl (by decide +kernel) (by decide +kernel) hk) fun made => ?_
          rw [out_bind]
          refine sq_eat (.inr (by decide +kernel)) hk (sq_nt (pre := []) (B2 := 0) (F2 := 0) (ih.co r.tail (by omega)) (fun x hx hl => ?_) (by omega) (by omega) (by omega))
          rw [out_bind]
          exact sq_sign (by decide +kernel) (by decide +kernel) (by decide +kernel) (by omega) fun _ => sq_nil (by omega)
        · rw [if_neg h2]
          have n1 := not_word (z := "not") (by decide +kernel) h1
          have n2 := not_sign (z := "[") (by decide +kernel) h2
          refine rs_rule (l := [s "expression", s "comparison"]) (fun gs made => mv_else (by decide +kernel) (by rw [only_t]; exact look_none (by simp [n1, n2])) (by decide +kernel)) fun made => ?_
          rw [out_bind]
          refine sq_nt (pre := []) (B2 := -20) (F2 := 2) (E.ex r (by omega)) (fun x hx hl => ?_) (by omega) (by omega) (by omega)
          refine sq_last (pre := [.exp x.1]) ?_
          by_cases c1 : isSign "<" x.2 = true
          · rw [if_pos c1]
            exact comp_one E (by decide +kernel) ((isSign_iff (z := "<") (by decide +kernel) _).mp c1) (i := 0) (by decide +kernel) (mk_less x.1) (by omega)
          · rw [if_neg c1]
            by_cases c2 : isSign "=" x.2 = true
            · rw [if_pos c2]
              exact comp_one E (by decide +kernel) ((isSign_iff (z := "=") (by decide +kernel) _).mp c2) (i := 1) (by decide +kernel) (mk_same x.1) (by omega)
            · rw [if_neg c2]
              by_cases c3 : isSign ">" x.2 = true
              · rw [if_pos c3]
                exact comp_one E (by decide +kernel) ((isSign_iff (z := ">") (by decide +kernel) _).mp c3) (i := 2) (by decide +kernel) (mk_more x.1) (by omega)
              · rw [if_neg c3]
                have m1 := not_sign (z := "<") (by decide +kernel) c1
                have m2 := not_sign (z := "=") (by decide +kernel) c2
                have m3 := not_sign (z := ">") (by decide +kernel) c3
                exact rs_fault (fun gs made => mv_bad (by decide +kernel) (by rw [only_c]; exact look_none (by simp [m1, m2, m3])) (by decide +kernel)) (by omega)
    · rw [show cond.ors e (k + 1) a r = (if isSign "|" r = true then (cond e k 1 r.tail >>= fun b => cond.ors e k (.or a b.1) b.2) else .ok (a, r)) by rw [Co01.cond.ors]]
      by_cases h1 : isSign "|" r = true
      · rw [if_pos h1]
        have hk := (isSign_iff (z := "|") (by decide +kernel) r).mp h1
        have hl := tl_sign (z := "|") (by decide +kernel) hk
        refine rs_more (op := .or) (.inr (by decide +kernel)) hk (mv_at only_mc 0 (by decide +kernel) (by decide +kernel) (by decide +kernel) hk) (fun x l => mk_cor a x l) (ih.cj r.tail (by omega)) (fun x hx hl => ih.mc _ x.2 (by omega)) (by omega) (by omega) (by omega) (by omega)
      · rw [if_neg h1]
        have n1 := not_sign (z := "|") (by decide +kernel) h1
        exact rs_end fun gs made => mv_else (by decide +kernel) (by rw [only_mc]; exact look_none (by simp [n1])) (by decide +kernel)
    · rw [show cond.ands e (k + 1) a r = (if isSign "&" r = true then (cond e k 2 r.tail >>= fun b => cond.ands e k (.and a b.1) b.2) else .ok (a, r)) by rw [Co01.cond.ands]]
      by_cases h1 : isSign "&" r = true
      · rw [if_pos h1]
        have hk := (isSign_iff (z := "&") (by decide +kernel) r).mp h1
        have hl := tl_sign (z := "&") (by decide +kernel) hk
        refine rs_more (op := .and) (.inr (by decide +kernel)) hk (mv_at only_mt 0 (by decide +kernel) (by decide +kernel) (by decide +kernel) hk) (fun x l => mk_cand a x l) (ih.te r.tail (by omega)) (fun x hx hl => ih.mt _ x.2 (by omega)) (by omega) (by omega) (by omega) (by omega)
      · rw [if_neg h1]
        have n1 := not_sign (z := "&") (by decide +kernel) h1
        exact rs_end fun gs made => mv_else (by decide +kernel) (by rw [only_mt]; exact look_none (by simp [n1])) (by decide +kernel)
end Mx
end
section
set_option linter.all false
namespace Mx
open Co01
theorem only_ms : only (ascii "more sums") BYTOK = [(ascii "or", [s "or", s "sum", m "or", s "more sums"]), (ascii "else", [s "else", s "sum", m "else", s "more sums"])] := by decide +kernel
theorem only_ma : only (ascii "more parts") BYTOK = [(ascii "and", [s "and", s "part", m "and", s "more parts"])] := by decide +kernel
theorem only_p : only (ascii "part") BYTOK = [(ascii "nothing", [s "nothing", m "nothing"]), (ascii "pay", [s "pay", s "expression", m "pay"]), (ascii "give", [s "give", s "part", m "give"]),
    (ascii "at", [s "at", s "number", s "part", m "at"]), (ascii "may", [s "may", s "number", s "part", m "may"]),
    (ascii "if", [s "if", s "condition", s "then", s "part", s "otherwise", s "part", m "if"]), (ascii "times", [s "times", s "expression", s ":", s "part", m "times"]),
    (ascii "stop", [s "stop", s "condition", s ":", s "part", m "stop"]), (ascii "(", [s "(", s "agreement", s ")"])] := by decide +kernel
theorem mk_nothing (l : List Made) : make (ascii "nothing") l = some (.ag .nothing :: l) := rfl
theorem mk_pay (a : Exp) (l : List Made) : make (ascii "pay") (.exp a :: l) = some (.ag (.pay a) :: l) := rfl
theorem mk_give (a : Ag) (l : List Made) : make (ascii "give") (.ag a :: l) = some (.ag (.give a) :: l) := rfl
theorem mk_at (n : Nat) (a : Ag) (l : List Made) : make (ascii "at") (.ag a :: .num n :: l) = some (.ag (.at_ n a) :: l) := rfl
theorem mk_may (n : Nat) (a : Ag) (l : List Made) : make (ascii "may") (.ag a :: .num n :: l) = some (.ag (.may n a) :: l) := rfl
theorem mk_if (c : Cond) (a b : Ag) (l : List Made) : make (ascii "if") (.ag b :: .ag a :: .cond c :: l) = some (.ag (.if_ c a b) :: l) := rfl
theorem mk_times (x : Exp) (a : Ag) (l : List Made) : make (ascii "times") (.ag a :: .exp x :: l) = some (.ag (.times x a) :: l) := rfl
theorem mk_stop (c : Cond) (a : Ag) (l : List Made) : make (ascii "stop") (.ag a :: .cond c :: l) = some (.ag (.halt_ c a) :: l) := rfl
theorem mk_and (a b : Ag) (l : List Made) : make (ascii "and") (.ag b :: .ag a :: l) = some (.ag (.both a b) :: l) := rfl
theorem mk_or (a b : Ag) (l : List Made) : make (ascii "or") (.ag b :: .ag a :: l) = some (.ag (.or a b) :: l) := rfl
theorem mk_else (a b : Ag) (l : List Made) : make (ascii "else") (.ag b :: .ag a :: l) = some (.ag (.else_ a b) :: l) := rfl
/-- a number awaited -/
theorem sq_num {e : Nat} {l : List G} {made : List Made} {r : Rest} {B F : Int} {k : Nat × Rest → Except Nat (List Made × Rest)} (hF : -20 * (r.length : Int) ≤ F)
    (q : ∀ p n t, r = (p, .num n) :: t → Sq e l (.num n :: made) t (B + 19) (F + 19) (k (n, t))) : Sq e (s "number" :: l) made r B F (number e r >>= k) := by
  by_cases h : kindAt r = ascii "number"
  · obtain ⟨p, n, t, rfl⟩ : ∃ p n t, r = (p, .num n) :: t := by
      cases r with
      | nil => exact absurd h (by decide)
      | cons x t =>
        obtain ⟨p, tk⟩ := x
        cases tk with
        | num n => exact ⟨p, n, t, rfl⟩
        | sign c =>
          have : [c] = ascii "number" := h
          exact absurd (congrArg List.length this) (by simp [ascii])
        | word w =>
          have h' : (if isName w = true then ascii "name" else w) = ascii "number" := h
          by_cases hn : isName w = true
          · rw [if_pos hn] at h'; exact absurd h' (by decide)
          · rw [if_neg hn] at h'
            exact absurd h' (words_len (words_not_name (by simpa using hn))).2.1
    have q1 := q p n t rfl
    show Sq e (s "number" :: l) made ((p, .num n) :: t) B F (k (n, t))
    cases z : k (n, t) with
    | ok x =>
      rw [z] at q1
      intro gs
      obtain ⟨n1, hn, H⟩ := q1 gs
      exact ⟨n1 + 1, by simp; omega, .turn (mv_tok rfl) H⟩
    | error x =>
      rw [z] at q1
      intro gs
      obtain ⟨n1, hn, H⟩ := q1 gs
      exact ⟨1 + n1, by simp; omega, (Goes.one (mv_tok (r := (p, .num n) :: t) (g := ascii "number") (gs := l ++ gs) (made := made) rfl)).falls H⟩
  · have e1 : number e r = .error (placeOf e r) := by
      cases r with
      | nil => rfl
      | cons x t =>
        obtain ⟨p, tk⟩ := x
        cases tk with
        | num n => exact absurd rfl h
        | sign c => rfl
        | word w => rfl
    rw [e1]
    exact sq_fault (fun gs => mv_want (by decide +kernel) (by decide +kernel) h) hF
structure AR (e k : Nat) : Prop where
  ag : ∀ r, 4 * r.length + 5 ≤ k → Rs e (ascii "agreement") [] .ag (-10) 2 r (agreement e k 0 r)
  su : ∀ r, 4 * r.length + 4 ≤ k → Rs e (ascii "sum") [] .ag (-12) 1 r (agreement e k 1 r)
  pa : ∀ r, 4 * r.length + 3 ≤ k → Rs e (ascii "part") [] .ag (-14) 0 r (agreement e k 2 r)
  ms : ∀ a r, 4 * r.length + 4 ≤ k → Rs e (ascii "more sums") [.ag a] .ag 1 2 r (agreement.choices e k a r)
  mp : ∀ a r, 4 * r.length + 4 ≤ k → Rs e (ascii "more parts") [.ag a] .ag 1 1 r (agreement.ands e k a r)
theorem part_eq (e k : Nat) (r : Rest) : agreement e (k + 1) 2 r =
    (if isWord "nothing" r = true then .ok (.nothing, r.tail)
    else if isWord "pay" r = true then (expr e k 0 r.tail >>= fun a => pure (.pay a.1, a.2))
    else if isWord "give" r = true then (agreement e k 2 r.tail >>= fun a => pure (.give a.1, a.2))
    else if isWord "at" r = true then (number e r.tail >>= fun n => agreement e k 2 n.2 >>= fun a => pure (.at_ n.1 a.1, a.2))
    else if isWord "may" r = true then (number e r.tail >>= fun n => agreement e k 2 n.2 >>= fun a => pure (.may n.1 a.1, a.2))
    else if isWord "if" r = true then (Co01.cond e k 0 r.tail >>= fun c => need (isWord "then") e c.2 >>= fun t => agreement e k 2 t >>= fun a => need (isWord "otherwise") e a.2 >>= fun t => agreement e k 2 t >>= fun b => pure (.if_ c.1 a.1 b.1, b.2))
    else if isWord "times" r = true then (expr e k 0 r.tail >>= fun x => need (isSign ":") e x.2 >>= fun t => agreement e k 2 t >>= fun a => pure (.times x.1 a.1, a.2))
    else if isWord "stop" r = true then (Co01.cond e k 0 r.tail >>= fun c => need (isSign ":") e c.2 >>= fun t => agreement e k 2 t >>= fun a => pure (.halt_ c.1 a.1, a.2))
    else if isSign "(" r = true then (agreement e k 0 r.tail >>= fun a => need (isSign ")") e a.2 >>= fun t => pure (a.1, t))
    else .error (placeOf e r)) := by rw [agreement] <;> simp
theorem ar_all (e : Nat) : ∀ k, AR e k
  | 0 => ⟨fun r h => by omega, fun r h => by omega, fun r h => by omega, fun a r h => by omega, fun a r h => by omega⟩
  | k + 1 => by
    have ih := ar_all e k
    have E := er_all e k
    have C := cr_all e k
    refine ⟨fun r h => ?_, fun r h => ?_, fun r h => ?_, fun a r h => ?_, fun a r h => ?_⟩
    · rw [show agreement e (k + 1) 0 r = (agreement e k 1 r >>= fun x => agreement.choices e k x.1 x.2) by rw [agreement]]
      refine rs_two (fun gs made => mv_any (by decide +kernel) (by decide +kernel) (by decide +kernel)) (ih.su r (by omega)) (fun x hx hl => ih.ms x.1 x.2 (by omega)) (by omega) (by omega) (by omega)
    · rw [show agreement e (k + 1) 1 r = (agreement e k 2 r >>= fun x => agreement.ands e k x.1 x.2) by rw [agreement]]
      refine rs_two (fun gs made => mv_any (by decide +kernel) (by decide +kernel) (by decide +kernel)) (ih.pa r (by omega)) (fun x hx hl => ih.mp x.1 x.2 (by omega)) (by omega) (by omega) (by omega)
    · rw [part_eq]
      by_cases h0 : isWord "nothing" r = true
      · rw [if_pos h0]
        have hk := (isWord_iff (z := "nothing") (by decide +kernel) r).mp h0
        refine rs_rule (mv_at only_p 0 rfl (by decide +kernel) (by decide +kernel) hk) fun made => ?_
        exact sq_eat (.inl (by decide +kernel)) hk (sq_mk (mk_nothing made) (sq_nil (by omega)))
      rw [if_neg h0]
      by_cases h1 : isWord "pay" r = true
      · rw [if_pos h1]
        have hk := (isWord_iff (z := "pay") (by decide +kernel) r).mp h1
        have hl := tl_word (z := "pay") (by decide +kernel) hk
        refine rs_rule (mv_at only_p 1 rfl (by decide +kernel) (by decide +kernel) hk) fun made => ?_
        rw [out_bind]
        exact sq_eat (.inl (by decide +kernel)) hk (sq_nt (pre := []) (B2 := 14) (F2 := 14) (E.ex r.tail (by omega)) (fun x hx hl => sq_mk (mk_pay x.1 made) (sq_nil (by omega))) (by omega) (by omega) (by omega))
      rw [if_neg h1]
      by_cases h2 : isWord "give" r = true
      · rw [if_pos h2]
        have hk := (isWord_iff (z := "give") (by decide +kernel) r).mp h2
        have hl := tl_word (z := "give") (by decide +kernel) hk
        refine rs_rule (mv_at only_p 2 rfl (by decide +kernel) (by decide +kernel) hk) fun made => ?_
        rw [out_bind]
        exact sq_eat (.inl (by decide +kernel)) hk (sq_nt (pre := []) (B2 := 14) (F2 := 14) (ih.pa r.tail (by omega)) (fun x hx hl => sq_mk (mk_give x.1 made) (sq_nil (by omega))) (by omega) (by omega) (by omega))
      rw [if_neg h2]
      by_cases h3 : isWord "at" r = true
      · rw [if_pos h3]
        have hk := (isWord_iff (z := "at") (by decide +kernel) r).mp h3
        have hl := tl_word (z := "at") (by decide +kernel) hk
        refine rs_rule (mv_at only_p 3 rfl (by decide +kernel) (by decide +kernel) hk) fun made => ?_
        rw [out_bind]
        refine sq_eat (.inl (by decide +kernel)) hk (sq_num (by omega) fun p n t ht => ?_)
        rw [ht, List.length_cons] at hl
        rw [out_bind]
        exact sq_nt (pre := []) (B2 := 14) (F2 := 14) (ih.pa t (by omega)) (fun x hx hl => sq_mk (mk_at n x.1 made) (sq_nil (by omega))) (by omega) (by omega) (by omega)
      rw [if_neg h3]
      by_cases h4 : isWord "may" r = true
      · rw [if_pos h4]
        have hk := (isWord_iff (z := "may") (by decide +kernel) r).mp h4
        have hl := tl_word (z := "may") (by decide +kernel) hk
        refine rs_rule (mv_at only_p 4 rfl (by decide +kernel) (by decide +kernel) hk) fun made => ?_
        rw [out_bind]
        refine sq_eat (.inl (by decide +kernel)) hk (sq_num (by omega) fun p n t ht => ?_)
        rw [ht, List.length_cons] at hl
        rw [out_bind]
        exact sq_nt (pre := []) (B2 := 14) (F2 := 14) (ih.pa t (by omega)) (fun x hx hl => sq_mk (mk_may n x.1 made) (sq_nil (by omega))) (by omega) (by omega) (by omega)
      rw [if_neg h4]
      by_cases h5 : isWord "if" r = true
      · rw [if_pos h5]
        have hk := (isWord_iff (z := "if") (by decide +kernel) r).mp h5
        have hl := tl_word (z := "if") (by decide +kernel) hk
        refine rs_rule (mv_at only_p 5 rfl (by decide +kernel) (by decide +kernel) hk) fun made => ?_
        rw [out_bind]
        refine sq_eat (.inl (by decide +kernel)) hk (sq_nt (pre := []) (B2 := 14) (F2 := 14) (C.co r.tail (by omega)) (fun c hc l1 => ?_) (by omega) (by omega) (by omega))
        rw [out_bind]
        refine sq_word (by decide +kernel) (by decide +kernel) (by decide +kernel) (by omega) fun _ => ?_
        rw [out_bind]
        have t1 := tl_len c.2
        refine sq_nt (pre := []) (B2 := 40) (F2 := 40) (ih.pa _ (by omega)) (fun x hx l2 => ?_) (by omega) (by omega) (by omega)
        rw [out_bind]
        refine sq_word (by decide +kernel) (by decide +kernel) (by decide +kernel) (by omega) fun _ => ?_
        rw [out_bind]
        have t2 := tl_len x.2
        exact sq_nt (pre := []) (B2 := 60) (F2 := 60) (ih.pa _ (by omega)) (fun y hy l3 => sq_mk (mk_if c.1 x.1 y.1 made) (sq_nil (by omega))) (by omega) (by omega) (by omega)
      rw [if_neg h5]
      by_cases h6 : isWord "times" r = true
      · rw [if_pos h6]
        have hk := (isWord_iff (z := "times") (by decide +kernel) r).mp h6
        have hl := tl_word (z := "times") (by decide +kernel) hk
        refine rs_rule (mv_at only_p 6 rfl (by decide +kernel) (by decide +kernel) hk) fun made => ?_
        rw [out_bind]
        refine sq_eat (.inl (by decide +kernel)) hk (sq_nt (pre := []) (B2 := 14) (F2 := 14) (E.ex r.tail (by omega)) (fun c hc l1 => ?_) (by omega) (by omega) (by omega))
        rw [out_bind]
        refine sq_sign (by decide +kernel) (by decide +kernel) (by decide +kernel) (by omega) fun _ => ?_
        rw [out_bind]
        have t1 := tl_len c.2
        exact sq_nt (pre := []) (B2 := 40) (F2 := 40) (ih.pa _ (by omega)) (fun x hx l2 => sq_mk (mk_times c.1 x.1 made) (sq_nil (by omega))) (by omega) (by omega) (by omega)
      rw [if_neg h6]
      by_cases h7 : isWord "stop" r = true
      · rw [if_pos h7]
        have hk := (isWord_iff (z := "stop") (by decide +kernel) r).mp h7
        have hl := tl_word (z := "stop") (by decide +kernel) hk
        refine rs_rule (mv_at only_p 7 rfl (by decide +kernel) (by decide +kernel) hk) fun made => ?_
        rw [out_bind]
        refine sq_eat (.inl (by decide +kernel)) hk (sq_nt (pre := []) (B2 := 14) (F2 := 14) (C.co r.tail (by omega)) (fun c hc l1 => ?_) (by omega) (by omega) (by omega))
        rw [out_bind]
        refine sq_sign (by decide +kernel) (by decide +kernel) (by decide +kernel) (by omega) fun _ => ?_
        rw [out_bind]
        have t1 := tl_len c.2
        exact sq_nt (pre := []) (B2 := 40) (F2 := 40) (ih.pa _ (by omega)) (fun x hx l2 => sq_mk (mk_stop c.1 x.1 made) (sq_nil (by omega))) (by omega) (by omega) (by omega)
      rw [if_neg h7]
      by_cases h8 : isSign "(" r = true
      · rw [if_pos h8]
        have hk := (isSign_iff (z := "(") (by decide +kernel) r).mp h8
        have hl := tl_sign (z := "(") (by decide +kernel) hk
        refine rs_rule (mv_at only_p 8 rfl (by decide +kernel) (by decide +kernel) hk) fun made => ?_
        rw [out_bind]
        refine sq_eat (.inr (by decide +kernel)) hk (sq_nt (pre := []) (B2 := 0) (F2 := 0) (ih.ag r.tail (by omega)) (fun x hx hl => ?_) (by omega) (by omega) (by omega))
        rw [out_bind]
        exact sq_sign (by decide +kernel) (by decide +kernel) (by decide +kernel) (by omega) fun _ => sq_nil (by omega)
      rw [if_neg h8]
      have n0 := not_word (z := "nothing") (by decide +kernel) h0
      have n1 := not_word (z := "pay") (by decide +kernel) h1
      have n2 := not_word (z := "give") (by decide +kernel) h2
      have n3 := not_word (z := "at") (by decide +kernel) h3
      have n4 := not_word (z := "may") (by decide +kernel) h4
      have n5 := not_word (z := "if") (by decide +kernel) h5
      have n6 := not_word (z := "times") (by decide +kernel) h6
      have n7 := not_word (z := "stop") (by decide +kernel) h7
      have n8 := not_sign (z := "(") (by decide +kernel) h8
      exact rs_fault (fun gs made => mv_bad (by decide +kernel) (by rw [only_p]; exact look_none (by simp [n0, n1, n2, n3, n4, n5, n6, n7, n8])) (by decide +kernel)) (by omega)
    · rw [show agreement.choices e (k + 1) a r = (if isWord "or" r = true then (agreement e k 1 r.tail >>= fun b => agreement.choices e k (.or a b.1) b.2) else if isWord "else" r = true then (agreement e k 1 r.tail >>= fun b => agreement.choices e k (.else_ a b.1) b.2) else .ok (a, r)) by rw [agreement.choices]]
      by_cases h1 : isWord "or" r = true
      · rw [if_pos h1]
        have hk := (isWord_iff (z := "or") (by decide +kernel) r).mp h1
        have hl := tl_word (z := "or") (by decide +kernel) hk
        refine rs_more (op := .or) (.inl (by decide +kernel)) hk (mv_at only_ms 0 rfl (by decide +kernel) (by decide +kernel) hk) (fun x l => mk_or a x l) (ih.su r.tail (by omega)) (fun x hx hl => ih.ms _ x.2 (by omega)) (by omega) (by omega) (by omega) (by omega)
      · rw [if_neg h1]
        by_cases h2 : isWord "else" r = true
        · rw [if_pos h2]
          have hk := (isWord_iff (z := "else") (by decide +kernel) r).mp h2
          have hl := tl_word (z := "else") (by decide +kernel) hk
          refine rs_more (op := .else_) (.inl (by decide +kernel)) hk (mv_at only_ms 1 rfl (by decide +kernel) (by decide +kernel) hk) (fun x l => mk_else a x l) (ih.su r.tail (by omega)) (fun x hx hl => ih.ms _ x.2 (by omega)) (by omega) (by omega) (by omega) (by omega)
        · rw [if_neg h2]
          have n1 := not_word (z := "or") (by decide +kernel) h1
          have n2 := not_word (z := "else") (by decide +kernel) h2
          exact rs_end fun gs made => mv_else (by decide +kernel) (by rw [only_ms]; exact look_none (by simp [n1, n2])) (by decide +kernel)
    · rw [show agreement.ands e (k + 1) a r = (if isWord "and" r = true then (agreement e k 2 r.tail >>= fun b => agreement.ands e k (.both a b.1) b.2) else .ok (a, r)) by rw [agreement.ands]]
      by_cases h1 : isWord "and" r = true
      · rw [if_pos h1]
        have hk := (isWord_iff (z := "and") (by decide +kernel) r).mp h1
        have hl := tl_word (z := "and") (by decide +kernel) hk
        refine rs_more (op := .both) (.inl (by decide +kernel)) hk (mv_at only_ma 0 rfl (by decide +kernel) (by decide +kernel) hk) (fun x l => mk_and a x l) (ih.pa r.tail (by omega)) (fun x hx hl => ih.mp _ x.2 (by omega)) (by omega) (by omega) (by omega) (by omega)
      · rw [if_neg h1]
        have n1 := not_word (z := "and") (by decide +kernel) h1
        exact rs_end fun gs made => mv_else (by decide +kernel) (by rw [only_ma]; exact look_none (by simp [n1])) (by decide +kernel)
end Mx
end
section
set_option linter.all false
/-! # A text read: by goals as the document reads it -/
namespace Mx
open Co01
theorem ite_some {α : Type} {c : Prop} [Decidable c] {a b : Option α} {x : α} (h : (if c then a else b) = some x) : (c ∧ a = some x) ∨ (¬ c ∧ b = some x) := by
  by_cases q : c
  · rw [if_pos q] at h; exact .inl ⟨q, h⟩
  · rw [if_neg q] at h; exact .inr ⟨q, h⟩
theorem make_nm {w : Bytes} {l l' : List Made} (h : make w l = some l') : l'.reverse.flatMap mNames = l.reverse.flatMap mNames := by
  unfold make at h
  iterate 25 (rcases ite_some h with ⟨_, h1⟩ | ⟨_, h⟩; (clear h; first | (split at h1 <;> first | (cases h1; done) | (obtain rfl := Option.some.inj h1; simp [mNames, expNames, condNames, names])) | (obtain rfl := Option.some.inj h1; simp [mNames, expNames, condNames, names])))
  cases h
theorem val_nm {r : Rest} {l : List Made} : (valOf r l).reverse.flatMap mNames ++ tokNames r.tail = l.reverse.flatMap mNames ++ tokNames r := by
  cases r with
  | nil => rfl
  | cons x t =>
    obtain ⟨p, tk⟩ := x
    cases tk with
    | num n => simp [valOf, mNames, tokNames]
    | sign c => simp [valOf, tokNames]
    | word w =>
      by_cases hn : isName w = true
      · simp [valOf, tokNames, hn, mNames]
      · simp [valOf, tokNames, hn]
theorem move_nm {e : Nat} {p q : PS} (h : move e p = .next q) : nm q.made q.toks = nm p.made p.toks := by
  obtain ⟨goals, made, toks⟩ := p
  cases goals with
  | nil => cases h
  | cons g gs =>
    cases g with
    | mk w =>
      have h' : (match make w made with | some l => Out.next ⟨gs, l, toks⟩ | none => .stuck) = .next q := h
      cases hm : make w made with
      | none => rw [hm] at h'; cases h'
      | some l =>
        rw [hm] at h'
        injection h' with h''
        subst h''
        show l.reverse.flatMap mNames ++ _ = _
        rw [make_nm hm]; rfl
    | sym z =>
      have h' : (if z = kindAt toks then Out.next ⟨gs, valOf toks made, toks.tail⟩ else match put z (kindAt toks) with | some l => .next ⟨l ++ gs, made, toks⟩ | none => .fault (placeOf e toks)) = .next q := h
      by_cases hz : z = kindAt toks
      · rw [if_pos hz] at h'
        injection h' with h''
        subst h''
        exact val_nm
      · rw [if_neg hz] at h'
        cases hp : put z (kindAt toks) with
        | none => rw [hp] at h'; cases h'
        | some l =>
          rw [hp] at h'
          injection h' with h''
          subst h''
          rfl
theorem goes_nm {e n : Nat} {p q : PS} (g : Goes e n p q) : nm q.made q.toks = nm p.made p.toks := by
  induction g with
  | here => rfl
  | turn h g ih => rw [ih, move_nm h]
theorem lex_len : ∀ (k p : Nat) (l : Bytes) (r : List (Nat × Tok)), lex k p l = .ok r → r.length ≤ l.length
  | 0, _, _, _, h => by cases h
  | k + 1, _, [], r, h => by
    have h' : (Except.ok [] : Except Nat (List (Nat × Tok))) = .ok r := h
    injection h' with h''
    subst h''
    simp
  | k + 1, p, c :: l, r, h => by
    rw [lex] at h
    have sub : ∀ (f : Except Nat (List (Nat × Tok))) (x : Nat × Tok) (m : Nat), 1 ≤ m → (∀ r', f = .ok r' → r'.length ≤ ((c :: l).drop m).length) → f.map (fun r => x :: r) = .ok r → r.length ≤ (c :: l).length := fun f x m hm hf e => by
      cases q : f with
      | error z => rw [q] at e; cases e
      | ok r' =>
        rw [q] at e
        injection e with e'
        subst e'
        have := hf r' q
        rw [List.length_drop] at this
        simp only [List.length_cons] at this ⊢
        omega
    have one : ∀ (f : Nat → Bool), f c = true → 1 ≤ ((c :: l).takeWhile f).length := fun f hf => by simp [List.takeWhile, hf]
    split at h
    · have := lex_len k _ l r h
      simp; omega
    · split at h
      · rename_i hs
        dsimp only at h
        split at h
        · cases h
        · exact sub _ _ _ (one _ hs) (fun r' e => lex_len k _ _ r' e) h
      · split at h
        · rename_i hd
          dsimp only at h
          split at h
          · cases h
          · exact sub _ _ _ (one _ hd) (fun r' e => lex_len k _ _ r' e) h
        · split at h
          · exact sub _ _ 1 (Nat.le_refl 1) (fun r' e => by simpa using lex_len k _ l r' e) h
          · cases h
abbrev start (r : Rest) : PS := ⟨[s "agreement", s "end"], [], r⟩
theorem end_kind {x : Nat × Tok} {t : Rest} : kindAt (x :: t) ≠ ascii "end" := by
  obtain ⟨p, tk⟩ := x
  cases tk with
  | num n => show ascii "number" ≠ _; decide +kernel
  | sign c => intro h; exact absurd (congrArg List.length h) (by simp [kindAt, kindOf, ascii])
  | word w =>
    show (if isName w = true then _ else _) ≠ _
    by_cases hn : isName w = true
    · rw [if_pos hn]; decide +kernel
    · rw [if_neg hn]; exact (words_len (words_not_name (by simpa using hn))).2.2.1
theorem read_ok {t : Bytes} {a : Ag} (h : readText t = .ok a) : ∃ r n, lex (t.length + 1) 0 t = .ok r ∧ r.length ≤ t.length ∧ n ≤ 20 * r.length + 3 ∧ Goes t.length n (start r) ⟨[], [.ag a], []⟩ ∧ names a = tokNames r := by
  unfold readText at h
  cases q : lex (t.length + 1) 0 t with
  | error p => rw [q] at h; cases h
  | ok r =>
    have hl := lex_len _ _ _ _ q
    have A := (ar_all t.length (8 * t.length + 20)).ag r (by omega)
    rw [q] at h
    dsimp only at h
    cases q2 : agreement t.length (8 * t.length + 20) 0 r with
    | error p => rw [q2] at h; cases h
    | ok y =>
      obtain ⟨b, r'⟩ := y
      rw [q2] at h A
      cases r' with
      | cons x z => cases h
      | nil =>
        obtain rfl : b = a := by injection h
        obtain ⟨n, hn, H⟩ := A [s "end"] []
        have H2 : Goes t.length (n + 1) (start r) ⟨[], [.ag b], []⟩ := H.trans (.one (mv_tok rfl))
        refine ⟨r, n + 1, rfl, hl, by simp at hn; omega, H2, ?_⟩
        have := goes_nm H2
        simpa [nm, mNames, tokNames] using this
theorem read_err {t : Bytes} {p : Nat} (h : readText t = .error p) : lex (t.length + 1) 0 t = .error p ∨ ∃ r n, lex (t.length + 1) 0 t = .ok r ∧ r.length ≤ t.length ∧ n ≤ 20 * r.length + 3 ∧ Falls t.length n (start r) p := by
  unfold readText at h
  cases q : lex (t.length + 1) 0 t with
  | error p' =>
    rw [q] at h
    obtain rfl : p' = p := by injection h
    exact .inl rfl
  | ok r =>
    refine .inr ⟨r, ?_⟩
    have hl := lex_len _ _ _ _ q
    have A := (ar_all t.length (8 * t.length + 20)).ag r (by omega)
    rw [q] at h
    dsimp only at h
    cases q2 : agreement t.length (8 * t.length + 20) 0 r with
    | error p' =>
      rw [q2] at h A
      obtain rfl : p' = p := by injection h
      obtain ⟨n, hn, H⟩ := A [s "end"] []
      exact ⟨n, rfl, hl, by omega, H⟩
    | ok y =>
      obtain ⟨b, r'⟩ := y
      rw [q2] at h A
      cases r' with
      | nil => cases h
      | cons x z =>
        obtain rfl : x.1 = p := by injection h
        obtain ⟨n, hn, H⟩ := A [s "end"] []
        refine ⟨n, rfl, hl, by simp at hn; omega, ?_⟩
        have f : Falls t.length 0 ⟨[s "end"], [.ag b], x :: z⟩ x.1 := Falls.now (mv_want (by decide +kernel) (by decide +kernel) end_kind)
        exact H.falls f
end Mx
end
section
set_option linter.all false
/-! # An agreement as steps, each behind its parts; a day; what waits; a choice made. Plain Lean. -/
namespace Mx
open Co01
inductive Det where
  | none
  | num (n : Nat)
  | exp (e : Exp)
  | cond (c : Cond)
  deriving DecidableEq
structure St where
  w : Bytes
  d : Det
  deriving DecidableEq
abbrev st (z : String) (d : Det := .none) : St := ⟨ascii z, d⟩
def post : Ag → List St
  | .nothing => [st "nothing"]
  | .pay e => [st "pay" (.exp e)]
  | .both a b => post a ++ post b ++ [st "and"]
  | .or a b => post a ++ post b ++ [st "or"]
  | .else_ a b => post a ++ post b ++ [st "else"]
  | .at_ k a => post a ++ [st "at" (.num k)]
  | .may k a => post a ++ [st "may" (.num k)]
  | .if_ c a b => post a ++ post b ++ [st "if" (.cond c)]
  | .give a => post a ++ [st "give"]
  | .times e a => post a ++ [st "times" (.exp e)]
  | .halt_ c a => post a ++ [st "stop" (.cond c)]
theorem post_pos : ∀ a : Ag, 0 < (post a).length := by
  intro a
  cases a <;> simp [post] <;> omega
/-- one step taken up: its tree, made of the trees that stand last (the last first) -/
def up (x : St) : List Ag → Option (List Ag)
  | l => if x.w = ascii "nothing" then some (.nothing :: l)
    else if x.w = ascii "pay" then (match x.d with | .exp e => some (.pay e :: l) | _ => none)
    else if x.w = ascii "give" then (match l with | a :: l => some (.give a :: l) | _ => none)
    else if x.w = ascii "at" then (match x.d, l with | .num k, a :: l => some (.at_ k a :: l) | _, _ => none)
    else if x.w = ascii "may" then (match x.d, l with | .num k, a :: l => some (.may k a :: l) | _, _ => none)
    else if x.w = ascii "if" then (match x.d, l with | .cond c, b :: a :: l => some (.if_ c a b :: l) | _, _ => none)
    else if x.w = ascii "times" then (match x.d, l with | .exp e, a :: l => some (.times e a :: l) | _, _ => none)
    else if x.w = ascii "stop" then (match x.d, l with | .cond c, a :: l => some (.halt_ c a :: l) | _, _ => none)
    else if x.w = ascii "and" then (match l with | b :: a :: l => some (.both a b :: l) | _ => none)
    else if x.w = ascii "or" then (match l with | b :: a :: l => some (.or a b :: l) | _ => none)
    else if x.w = ascii "else" then (match l with | b :: a :: l => some (.else_ a b :: l) | _ => none)
    else none
def ups : List St → List Ag → Option (List Ag)
  | [], l => some l
  | x :: r, l => (up x l).bind (ups r)
theorem ups_app : ∀ (x y : List St) (l : List Ag), ups (x ++ y) l = (ups x l).bind (ups y)
  | [], _, _ => rfl
  | a :: x, y, l => by
    show (up a l).bind (ups (x ++ y)) = ((up a l).bind (ups x)).bind (ups y)
    cases up a l with
    | none => rfl
    | some l' => exact ups_app x y l'
theorem ups_post : ∀ (a : Ag) (l : List Ag), ups (post a) l = some (a :: l)
  | .nothing, _ => rfl
  | .pay _, _ => rfl
  | .both a b, l => by rw [post, ups_app, ups_app, ups_post a, Option.bind_some, ups_post b]; rfl
  | .or a b, l => by rw [post, ups_app, ups_app, ups_post a, Option.bind_some, ups_post b]; rfl
  | .else_ a b, l => by rw [post, ups_app, ups_app, ups_post a, Option.bind_some, ups_post b]; rfl
  | .at_ k a, l => by rw [post, ups_app, ups_post a]; rfl
  | .may k a, l => by rw [post, ups_app, ups_post a]; rfl
  | .if_ c a b, l => by rw [post, ups_app, ups_app, ups_post a, Option.bind_some, ups_post b]; rfl
  | .give a, l => by rw [post, ups_app, ups_post a]; rfl
  | .times e a, l => by rw [post, ups_app, ups_post a]; rfl
  | .halt_ c a, l => by rw [post, ups_app, ups_post a]; rfl

/-! ## a day goes by once: what is left stays as it is -/
def Settled (t : Nat) (v : Seen) : Ag → Prop
  | .nothing => True
  | .pay _ => False
  | .both a b => Settled t v a ∧ Settled t v b ∧ a ≠ .nothing ∧ b ≠ .nothing
  | .or _ _ => True
  | .else_ _ _ => True
  | .at_ k _ => ¬ k ≤ t
  | .may k _ => ¬ k < t
  | .if_ _ _ _ => False
  | .give a => Settled t v a ∧ a ≠ .nothing
  | .times e a => Settled t v a ∧ a ≠ .nothing ∧ ∃ z, z ≠ 0 ∧ e = lit z
  | .halt_ c a => Settled t v a ∧ a ≠ .nothing ∧ holds v c = false
theorem ev_lit (v : Seen) (z : Int) : ev v (lit z) = z := by
  unfold lit
  split
  · show -((z.natAbs : Int)) = z; omega
  · show ((z.natAbs : Nat) : Int) = z; omega
theorem bothOf_ne {a b : Ag} (ha : a ≠ .nothing) (hb : b ≠ .nothing) : bothOf a b = .both a b := by
  cases a <;> cases b <;> first | rfl | contradiction
theorem giveOf_ne {a : Ag} (ha : a ≠ .nothing) : giveOf a = .give a := by cases a <;> first | rfl | contradiction
theorem timesOf_ne {z : Int} {a : Ag} (hz : z ≠ 0) (ha : a ≠ .nothing) : timesOf z a = .times (lit z) a := by
  cases a <;> first | contradiction | exact if_neg hz
theorem stopOf_ne {c : Cond} {a : Ag} (ha : a ≠ .nothing) : stopOf c a = .halt_ c a := by cases a <;> first | rfl | contradiction
theorem settled_both {t : Nat} {v : Seen} {a b : Ag} (ha : Settled t v a) (hb : Settled t v b) : Settled t v (bothOf a b) := by
  by_cases h1 : a = .nothing
  · subst h1; exact hb
  · by_cases h2 : b = .nothing
    · subst h2
      have : bothOf a .nothing = a := by cases a <;> rfl
      rw [this]; exact ha
    · rw [bothOf_ne h1 h2]; exact ⟨ha, hb, h1, h2⟩
theorem settled_give {t : Nat} {v : Seen} {a : Ag} (ha : Settled t v a) : Settled t v (giveOf a) := by
  by_cases h1 : a = .nothing
  · subst h1; trivial
  · rw [giveOf_ne h1]; exact ⟨ha, h1⟩
theorem settled_times {t : Nat} {v : Seen} {a : Ag} {z : Int} (hz : z ≠ 0) (ha : Settled t v a) : Settled t v (timesOf z a) := by
  by_cases h1 : a = .nothing
  · subst h1; trivial
  · rw [timesOf_ne hz h1]; exact ⟨ha, h1, z, hz, rfl⟩
theorem settled_stop {t : Nat} {v : Seen} {a : Ag} {c : Cond} (hc : holds v c = false) (ha : Settled t v a) : Settled t v (stopOf c a) := by
  by_cases h1 : a = .nothing
  · subst h1; trivial
  · rw [stopOf_ne h1]; exact ⟨ha, h1, hc⟩
theorem run_settled (t : Nat) (v : Seen) : ∀ a : Ag, Settled t v (run t v a).1
  | .nothing => trivial
  | .pay _ => trivial
  | .both a b => settled_both (run_settled t v a) (run_settled t v b)
  | .or _ _ => trivial
  | .else_ _ _ => trivial
  | .at_ k a => by
    show Settled t v (if k ≤ t then run t v a else (.at_ k a, 0)).1
    by_cases h : k ≤ t
    · rw [if_pos h]; exact run_settled t v a
    · rw [if_neg h]; exact h
  | .may k a => by
    show Settled t v (if k < t then (Ag.nothing, (0 : Int)) else (.may k a, 0)).1
    by_cases h : k < t
    · rw [if_pos h]; trivial
    · rw [if_neg h]; exact h
  | .if_ c a b => by
    show Settled t v (if holds v c = true then run t v a else run t v b).1
    by_cases h : holds v c = true
    · rw [if_pos h]; exact run_settled t v a
    · rw [if_neg h]; exact run_settled t v b
  | .give a => settled_give (run_settled t v a)
  | .times e a => by
    show Settled t v (if ev v e = 0 then (Ag.nothing, (0 : Int)) else (timesOf (ev v e) (run t v a).1, ev v e * (run t v a).2)).1
    by_cases h : ev v e = 0
    · rw [if_pos h]; trivial
    · rw [if_neg h]; exact settled_times h (run_settled t v a)
  | .halt_ c a => by
    show Settled t v (if holds v c = true then (Ag.nothing, (0 : Int)) else (stopOf c (run t v a).1, (run t v a).2)).1
    by_cases h : holds v c = true
    · rw [if_pos h]; trivial
    · rw [if_neg h]; exact settled_stop (by simpa using h) (run_settled t v a)
theorem settled_run {t : Nat} {v : Seen} : ∀ {a : Ag}, Settled t v a → run t v a = (a, 0)
  | .nothing, _ => rfl
  | .pay _, h => h.elim
  | .both a b, ⟨ha, hb, na, nb⟩ => by
    show (bothOf (run t v a).1 (run t v b).1, (run t v a).2 + (run t v b).2) = _
    rw [settled_run ha, settled_run hb, bothOf_ne na nb]; rfl
  | .or _ _, _ => rfl
  | .else_ _ _, _ => rfl
  | .at_ k a, h => if_neg h
  | .may k a, h => if_neg h
  | .if_ _ _ _, h => h.elim
  | .give a, ⟨ha, na⟩ => by
    show (giveOf (run t v a).1, -(run t v a).2) = _
    rw [settled_run ha, giveOf_ne na]; rfl
  | .times e a, ⟨ha, na, z, hz, he⟩ => by
    show (if ev v e = 0 then (Ag.nothing, (0 : Int)) else (timesOf (ev v e) (run t v a).1, ev v e * (run t v a).2)) = _
    subst he
    rw [ev_lit, if_neg hz, settled_run ha, timesOf_ne hz na]; simp
  | .halt_ c a, ⟨ha, na, hc⟩ => by
    show (if holds v c = true then (Ag.nothing, (0 : Int)) else (stopOf c (run t v a).1, (run t v a).2)) = _
    rw [if_neg (by rw [hc]; simp), settled_run ha, stopOf_ne na]

/-! ## what waits, by its step's place -/
/-- the places of what waits, and whose it is -/
def waitsAt (other : Bool) (o : Nat) : Ag → List (Nat × Bool)
  | .both a b => waitsAt other o a ++ waitsAt other (o + (post a).length) b
  | .or a b => [(o + (post a).length + (post b).length, other)]
  | .else_ a b => [(o + (post a).length + (post b).length, !other)]
  | .may _ a => [(o + (post a).length, other)]
  | .give a => waitsAt (!other) o a
  | .times _ a => waitsAt other o a
  | .halt_ _ a => waitsAt other o a
  | _ => []
/-- the i-th that waits, with its first or second part, or begun, in its place -/
def chosen (w : Bool) : Nat → Ag → Ag
  | i, .both a b => if i < (waits false a).length then .both (chosen w i a) b else .both a (chosen w (i - (waits false a).length) b)
  | _, .or a b => if w = true then b else a
  | _, .else_ a b => if w = true then b else a
  | _, .may _ a => a
  | i, .give a => .give (chosen w i a)
  | i, .times e a => .times e (chosen w i a)
  | i, .halt_ c a => .halt_ c (chosen w i a)
  | _, a => a
theorem waits_len (x y : Bool) : ∀ a : Ag, (waits x a).length = (waits y a).length
  | .both a b => by simp [waits, waits_len x y a, waits_len x y b]
  | .or _ _ => rfl
  | .else_ _ _ => rfl
  | .may _ _ => rfl
  | .give a => waits_len (!x) (!y) a
  | .times _ a => waits_len x y a
  | .halt_ _ a => waits_len x y a
  | .nothing => rfl
  | .pay _ => rfl
  | .at_ _ _ => rfl
  | .if_ _ _ _ => rfl
theorem decided_run {t : Nat} {v : Seen} {w : Bool} : ∀ {a : Ag} {i : Nat}, Settled t v a → i < (waits false a).length → decided t v w i a = run t v (chosen w i a)
  | .both a b, i, ⟨ha, hb, na, nb⟩, hi => by
    have hl : (waits false (.both a b)).length = (waits false a).length + (waits false b).length := by simp [waits]
    show (if i < (waits false a).length then (bothOf (decided t v w i a).1 b, (decided t v w i a).2) else (bothOf a (decided t v w (i - (waits false a).length) b).1, (decided t v w (i - (waits false a).length) b).2)) = _
    by_cases h : i < (waits false a).length
    · rw [if_pos h, decided_run ha h, chosen, if_pos h]
      show _ = (bothOf (run t v (chosen w i a)).1 (run t v b).1, (run t v (chosen w i a)).2 + (run t v b).2)
      rw [settled_run hb]; simp
    · rw [if_neg h, decided_run hb (by omega), chosen, if_neg h]
      show _ = (bothOf (run t v a).1 (run t v (chosen w (i - (waits false a).length) b)).1, (run t v a).2 + (run t v (chosen w (i - (waits false a).length) b)).2)
      rw [settled_run ha]; simp
  | .or a b, i, _, _ => by
    show (if w = true then run t v b else run t v a) = run t v (if w = true then b else a)
    split <;> rfl
  | .else_ a b, i, _, _ => by
    show (if w = true then run t v b else run t v a) = run t v (if w = true then b else a)
    split <;> rfl
  | .may k a, i, _, _ => rfl
  | .give a, i, ⟨ha, na⟩, hi => by
    show (giveOf (decided t v w i a).1, -(decided t v w i a).2) = (giveOf (run t v (chosen w i a)).1, -(run t v (chosen w i a)).2)
    rw [decided_run ha (by rw [waits_len false (!false)]; exact hi)]
  | .times e a, i, ⟨ha, na, z, hz, he⟩, hi => by
    show (timesOf (ev v e) (decided t v w i a).1, ev v e * (decided t v w i a).2) = (if ev v e = 0 then (Ag.nothing, (0 : Int)) else (timesOf (ev v e) (run t v (chosen w i a)).1, ev v e * (run t v (chosen w i a)).2))
    subst he
    rw [ev_lit, if_neg hz, decided_run ha hi]
  | .halt_ c a, i, ⟨ha, na, hc⟩, hi => by
    show (stopOf c (decided t v w i a).1, (decided t v w i a).2) = (if holds v c = true then (Ag.nothing, (0 : Int)) else (stopOf c (run t v (chosen w i a)).1, (run t v (chosen w i a)).2))
    rw [if_neg (by rw [hc]; simp), decided_run ha hi]
  | .nothing, _, _, hi => by simp [waits] at hi
  | .pay _, _, _, hi => by simp [waits] at hi
  | .at_ _ _, _, _, hi => by simp [waits] at hi
  | .if_ _ _ _, _, _, hi => by simp [waits] at hi
end Mx
end
section
set_option linter.all false
namespace Mx
open Co01
/-- at place p of a's steps something waits: of kind 0 a choice, whose parts stand ahead of it; of kind 1 what may be begun -/
def Cut (steps steps' : List St) (w : Bool) (p kind : Nat) : Prop :=
  ∃ pre suf, (kind = 0 ∧ ∃ x y z, z.w ≠ ascii "may" ∧ steps = pre ++ (post x ++ post y ++ [z]) ++ suf ∧ p = pre.length + (post x).length + (post y).length ∧ steps' = pre ++ post (if w = true then y else x) ++ suf) ∨
    (kind = 1 ∧ ∃ x k, steps = pre ++ (post x ++ [st "may" (.num k)]) ++ suf ∧ p = pre.length + (post x).length ∧ steps' = pre ++ post x ++ suf)
theorem Cut.shift {steps steps' : List St} {w : Bool} {p kind : Nat} (h : Cut steps steps' w p kind) (a b : List St) : Cut (a ++ steps ++ b) (a ++ steps' ++ b) w (a.length + p) kind := by
  obtain ⟨pre, suf, h⟩ := h
  refine ⟨a ++ pre, suf ++ b, ?_⟩
  rcases h with ⟨hk, x, y, z, hz, e1, e2, e3⟩ | ⟨hk, x, k, e1, e2, e3⟩
  · refine .inl ⟨hk, x, y, z, hz, ?_, ?_, ?_⟩
    · rw [e1]; simp
    · rw [e2, List.length_append]; omega
    · rw [e3]; simp
  · refine .inr ⟨hk, x, k, ?_, ?_, ?_⟩
    · rw [e1]; simp
    · rw [e2, List.length_append]; omega
    · rw [e3]; simp
theorem waitsAt_len (x : Bool) : ∀ (a : Ag) (o : Nat), (waitsAt x o a).length = (waits x a).length
  | .both a b, o => by simp [waits, waitsAt, waitsAt_len x a, waitsAt_len x b]
  | .or _ _, _ => rfl
  | .else_ _ _, _ => rfl
  | .may _ _, _ => rfl
  | .give a, o => waitsAt_len (!x) a o
  | .times _ a, o => waitsAt_len x a o
  | .halt_ _ a, o => waitsAt_len x a o
  | .nothing, _ => rfl
  | .pay _, _ => rfl
  | .at_ _ _, _ => rfl
  | .if_ _ _ _, _ => rfl
/-- what waits: the same in order, by place and by kind; and what becomes of the steps when it is chosen or begun -/
theorem waits_cut (w : Bool) : ∀ (a : Ag) (other : Bool) (o i : Nat) (p : Nat) (sd : Bool), (waitsAt other o a)[i]? = some (p, sd) → ∃ kind, (waits other a)[i]? = some (kind, sd) ∧ ∃ q, p = o + q ∧ Cut (post a) (post (chosen w i a)) w q kind
  | .both a b, other, o, i, p, sd, h => by
    have hla := waitsAt_len other a o
    have hlw := waits_len false other a
    have h' : (waitsAt other o a ++ waitsAt other (o + (post a).length) b)[i]? = some (p, sd) := h
    show ∃ kind, (waits other a ++ waits other b)[i]? = _ ∧ _
    by_cases hi : i < (waits other a).length
    · rw [List.getElem?_append_left (by omega)] at h'
      obtain ⟨kind, h1, q, h2, h3⟩ := waits_cut w a other o i p sd h'
      refine ⟨kind, by rw [List.getElem?_append_left hi]; exact h1, q, h2, ?_⟩
      rw [chosen, if_pos (by omega)]
      have := h3.shift [] (post b ++ [st "and"])
      simpa [post] using this
    · rw [List.getElem?_append_right (by omega)] at h'
      rw [hla] at h'
      obtain ⟨kind, h1, q, h2, h3⟩ := waits_cut w b other _ (i - (waits other a).length) p sd h'
      refine ⟨kind, by rw [List.getElem?_append_right (by omega)]; exact h1, (post a).length + q, by omega, ?_⟩
      rw [chosen, if_neg (by omega), hlw]
      have := h3.shift (post a) [st "and"]
      simpa [post] using this
  | .or a b, other, o, i, p, sd, h => by
    have h' : [(o + (post a).length + (post b).length, other)][i]? = some (p, sd) := h
    cases i with
    | succ i => simp at h'
    | zero =>
      simp at h'
      obtain ⟨rfl, rfl⟩ := h'
      refine ⟨0, rfl, (post a).length + (post b).length, by omega, [], [], .inl ⟨rfl, a, b, st "or", by decide +kernel, by simp [post], by simp, ?_⟩⟩
      simp [chosen]
  | .else_ a b, other, o, i, p, sd, h => by
    have h' : [(o + (post a).length + (post b).length, !other)][i]? = some (p, sd) := h
    cases i with
    | succ i => simp at h'
    | zero =>
      simp at h'
      obtain ⟨rfl, rfl⟩ := h'
      refine ⟨0, by simp [waits], (post a).length + (post b).length, by omega, [], [], .inl ⟨rfl, a, b, st "else", by decide +kernel, by simp [post], by simp, ?_⟩⟩
      simp [chosen]
  | .may k a, other, o, i, p, sd, h => by
    have h' : [(o + (post a).length, other)][i]? = some (p, sd) := h
    cases i with
    | succ i => simp at h'
    | zero =>
      simp at h'
      obtain ⟨rfl, rfl⟩ := h'
      exact ⟨1, rfl, (post a).length, rfl, [], [], .inr ⟨rfl, a, k, by simp [post], by simp, by simp [chosen]⟩⟩
  | .give a, other, o, i, p, sd, h => by
    obtain ⟨kind, h1, q, h2, h3⟩ := waits_cut w a (!other) o i p sd h
    refine ⟨kind, h1, q, h2, ?_⟩
    have := h3.shift [] [st "give"]
    simpa [post, chosen] using this
  | .times e a, other, o, i, p, sd, h => by
    obtain ⟨kind, h1, q, h2, h3⟩ := waits_cut w a other o i p sd h
    refine ⟨kind, h1, q, h2, ?_⟩
    have := h3.shift [] [st "times" (.exp e)]
    simpa [post, chosen] using this
  | .halt_ c a, other, o, i, p, sd, h => by
    obtain ⟨kind, h1, q, h2, h3⟩ := waits_cut w a other o i p sd h
    refine ⟨kind, h1, q, h2, ?_⟩
    have := h3.shift [] [st "stop" (.cond c)]
    simpa [post, chosen] using this
  | .nothing, _, _, _, _, _, h => by simp [waitsAt] at h
  | .pay _, _, _, _, _, _, h => by simp [waitsAt] at h
  | .at_ _ _, _, _, _, _, _, h => by simp [waitsAt] at h
  | .if_ _ _ _, _, _, _, _, _, h => by simp [waitsAt] at h

/-! ## where a part begins, from its last step back -/
def parts (w : Bytes) : Nat := if w = ascii "nothing" ∨ w = ascii "pay" then 0 else if w = ascii "if" ∨ w = ascii "and" ∨ w = ascii "or" ∨ w = ascii "else" then 2 else 1
/-- one step back -/
def back (x : St) (m : Nat) : Nat := m + parts x.w - 1
/-- back over a whole part: one less is missing, and meanwhile never none -/
inductive Back : List St → Nat → Nat → Prop where
  | nil (m : Nat) : Back [] m m
  | snoc {l : List St} {x : St} {m k : Nat} (h : 0 < m) (b : Back l (back x m) k) : Back (l ++ [x]) m k
theorem Back.app {l : List St} {m k : Nat} (b : Back l m k) : ∀ {l' : List St} {j : Nat}, Back l' k j → Back (l' ++ l) m j := by
  induction b with
  | nil m => intro l' j h; simpa using h
  | snoc h b ih =>
    intro l' j h'
    rw [← List.append_assoc]
    exact .snoc h (ih h')
theorem back_post : ∀ (a : Ag) (m : Nat), 0 < m → Back (post a) m (m - 1)
  | .nothing, m, h => by
    have : Back ([] ++ [st "nothing"]) m (m - 1) := .snoc h (by show Back [] (m + 0 - 1) (m - 1); exact .nil _)
    exact this
  | .pay e, m, h => by
    have : Back ([] ++ [st "pay" (.exp e)]) m (m - 1) := .snoc h (by show Back [] (m + 0 - 1) (m - 1); exact .nil _)
    exact this
  | .both a b, m, h => .snoc h (by
    show Back _ (m + 2 - 1) _
    have h1 := back_post b (m + 1) (by omega)
    have h2 := back_post a m h
    exact h1.app (by simpa using h2))
  | .or a b, m, h => .snoc h (by
    show Back _ (m + 2 - 1) _
    have h1 := back_post b (m + 1) (by omega)
    have h2 := back_post a m h
    exact h1.app (by simpa using h2))
  | .else_ a b, m, h => .snoc h (by
    show Back _ (m + 2 - 1) _
    have h1 := back_post b (m + 1) (by omega)
    have h2 := back_post a m h
    exact h1.app (by simpa using h2))
  | .if_ c a b, m, h => .snoc h (by
    show Back _ (m + 2 - 1) _
    have h1 := back_post b (m + 1) (by omega)
    have h2 := back_post a m h
    exact h1.app (by simpa using h2))
  | .at_ k a, m, h => .snoc h (by show Back _ (m + 1 - 1) _; exact back_post a m h)
  | .may k a, m, h => .snoc h (by show Back _ (m + 1 - 1) _; exact back_post a m h)
  | .give a, m, h => .snoc h (by show Back _ (m + 1 - 1) _; exact back_post a m h)
  | .times e a, m, h => .snoc h (by show Back _ (m + 1 - 1) _; exact back_post a m h)
  | .halt_ c a, m, h => .snoc h (by show Back _ (m + 1 - 1) _; exact back_post a m h)
end Mx
end
section
set_option linter.all false
/-! # How large the numbers come: bits -/
namespace Mx
open Co01
def wt : Exp → Nat
  | .num n => n.log2 + 1
  | .name _ => 20
  | .neg a => wt a
  | .add a b => wt a + wt b
  | .sub a b => wt a + wt b
  | .mul a b => wt a + wt b
  | .max a b => wt a + wt b
  | .min a b => wt a + wt b
theorem pow_add_le (x y p q : Nat) (hp : p < 2 ^ x) (hq : q < 2 ^ y) : p + q < 2 ^ (x + y) := by
  have h1 : 1 ≤ 2 ^ x := Nat.one_le_two_pow
  have h2 : 1 ≤ 2 ^ y := Nat.one_le_two_pow
  have h3 : (p + 1) * (q + 1) ≤ 2 ^ x * 2 ^ y := Nat.mul_le_mul hp hq
  rw [Nat.pow_add]
  have h4 : (p + 1) * (q + 1) = p * q + p + q + 1 := by rw [Nat.add_mul, Nat.mul_add]; omega
  have : 0 ≤ p * q := Nat.zero_le _
  omega
theorem pow_mul_lt (x y p q : Nat) (hp : p < 2 ^ x) (hq : q < 2 ^ y) : p * q < 2 ^ (x + y) := by
  rw [Nat.pow_add]
  exact Nat.mul_lt_mul'' hp hq
theorem pow_left (x y p : Nat) (hp : p < 2 ^ x) : p < 2 ^ (x + y) := Nat.lt_of_lt_of_le hp (Nat.pow_le_pow_right (by decide) (by omega))
theorem pow_right (x y p : Nat) (hp : p < 2 ^ y) : p < 2 ^ (x + y) := Nat.lt_of_lt_of_le hp (Nat.pow_le_pow_right (by decide) (by omega))
/-- what is observed is below a million -/
def Small (v : Seen) : Prop := ∀ b, (seen v b).natAbs ≤ 1000000
theorem ev_lt {v : Seen} (hv : Small v) : ∀ e : Exp, (ev v e).natAbs < 2 ^ wt e
  | .num n => by
    show ((n : Int)).natAbs < 2 ^ (n.log2 + 1)
    simpa using Nat.lt_log2_self
  | .name b => by
    have := hv b
    show (seen v b).natAbs < 2 ^ 20
    omega
  | .neg a => by
    show (-(ev v a)).natAbs < _
    rw [Int.natAbs_neg]; exact ev_lt hv a
  | .add a b => by
    have h := pow_add_le _ _ _ _ (ev_lt hv a) (ev_lt hv b)
    show (ev v a + ev v b).natAbs < 2 ^ (wt a + wt b)
    omega
  | .sub a b => by
    have h := pow_add_le _ _ _ _ (ev_lt hv a) (ev_lt hv b)
    show (ev v a - ev v b).natAbs < 2 ^ (wt a + wt b)
    omega
  | .mul a b => by
    show (ev v a * ev v b).natAbs < 2 ^ (wt a + wt b)
    rw [Int.natAbs_mul]
    exact pow_mul_lt _ _ _ _ (ev_lt hv a) (ev_lt hv b)
  | .max a b => by
    show (if ev v a < ev v b then ev v b else ev v a).natAbs < 2 ^ (wt a + wt b)
    split
    · exact pow_right _ _ _ (ev_lt hv b)
    · exact pow_left _ _ _ (ev_lt hv a)
  | .min a b => by
    show (if ev v b < ev v a then ev v b else ev v a).natAbs < 2 ^ (wt a + wt b)
    split
    · exact pow_right _ _ _ (ev_lt hv b)
    · exact pow_left _ _ _ (ev_lt hv a)
theorem log2_lt {n k : Nat} (h0 : n ≠ 0) (h : n < 2 ^ k) : n.log2 + 1 ≤ k := (Nat.log2_lt h0).mpr h
theorem wt_lit {z : Int} {k : Nat} (h0 : z ≠ 0) (h : z.natAbs < 2 ^ k) : wt (lit z) ≤ k := by
  have : z.natAbs.log2 + 1 ≤ k := log2_lt (by omega) h
  unfold lit
  split <;> exact this
def wtC : Cond → Nat
  | .less a b => wt a + wt b
  | .same a b => wt a + wt b
  | .more a b => wt a + wt b
  | .not a => wtC a
  | .and a b => wtC a + wtC b
  | .or a b => wtC a + wtC b
def wtA : Ag → Nat
  | .nothing => 0
  | .pay e => wt e
  | .both a b => wtA a + wtA b
  | .or a b => wtA a + wtA b
  | .else_ a b => wtA a + wtA b
  | .at_ _ a => wtA a
  | .may _ a => wtA a
  | .if_ c a b => wtC c + wtA a + wtA b
  | .give a => wtA a
  | .times e a => wt e + wtA a
  | .halt_ c a => wtC c + wtA a
theorem wtA_both (a b : Ag) : wtA (bothOf a b) ≤ wtA a + wtA b := by
  by_cases h1 : a = .nothing
  · subst h1; show wtA b ≤ _; omega
  · by_cases h2 : b = .nothing
    · subst h2
      have : bothOf a .nothing = a := by cases a <;> rfl
      rw [this]; omega
    · rw [bothOf_ne h1 h2]; exact Nat.le_refl _
theorem wtA_give (a : Ag) : wtA (giveOf a) ≤ wtA a := by
  by_cases h1 : a = .nothing
  · subst h1; exact Nat.le_refl _
  · rw [giveOf_ne h1]; exact Nat.le_refl _
theorem wtA_stop (c : Cond) (a : Ag) : wtA (stopOf c a) ≤ wtC c + wtA a := by
  by_cases h1 : a = .nothing
  · subst h1; show 0 ≤ _; omega
  · rw [stopOf_ne h1]; exact Nat.le_refl _
theorem wtA_times {z : Int} {k : Nat} (a : Ag) (h0 : z ≠ 0) (h : z.natAbs < 2 ^ k) : wtA (timesOf z a) ≤ k + wtA a := by
  by_cases h1 : a = .nothing
  · subst h1; show 0 ≤ _; omega
  · rw [timesOf_ne h0 h1]
    show wt (lit z) + wtA a ≤ _
    have := wt_lit h0 h
    omega
/-- a day makes no number larger than it could be; what is paid stays below too -/
theorem run_size {t : Nat} {v : Seen} (hv : Small v) : ∀ a : Ag, wtA (run t v a).1 ≤ wtA a ∧ (run t v a).2.natAbs < 2 ^ wtA a
  | .nothing => ⟨Nat.le_refl _, by show (0 : Int).natAbs < _; simp [wtA]⟩
  | .pay e => ⟨by show 0 ≤ _; omega, ev_lt hv e⟩
  | .both a b => by
    have h1 := run_size (t := t) hv a
    have h2 := run_size (t := t) hv b
    refine ⟨Nat.le_trans (wtA_both _ _) (Nat.add_le_add h1.1 h2.1), ?_⟩
    have h := pow_add_le _ _ _ _ h1.2 h2.2
    show ((run t v a).2 + (run t v b).2).natAbs < 2 ^ (wtA a + wtA b)
    omega
  | .or a b => ⟨Nat.le_refl _, by show (0 : Int).natAbs < _; exact Nat.two_pow_pos _⟩
  | .else_ a b => ⟨Nat.le_refl _, by show (0 : Int).natAbs < _; exact Nat.two_pow_pos _⟩
  | .at_ k a => by
    show wtA (if k ≤ t then run t v a else (.at_ k a, 0)).1 ≤ _ ∧ (if k ≤ t then run t v a else (.at_ k a, 0)).2.natAbs < _
    by_cases h : k ≤ t
    · rw [if_pos h]; exact run_size hv a
    · rw [if_neg h]; exact ⟨Nat.le_refl _, by show (0 : Int).natAbs < _; exact Nat.two_pow_pos _⟩
  | .may k a => by
    show wtA (if k < t then (Ag.nothing, (0 : Int)) else (.may k a, 0)).1 ≤ _ ∧ (if k < t then (Ag.nothing, (0 : Int)) else (.may k a, 0)).2.natAbs < _
    by_cases h : k < t
    · rw [if_pos h]; exact ⟨by show 0 ≤ _; omega, by show (0 : Int).natAbs < _; exact Nat.two_pow_pos _⟩
    · rw [if_neg h]; exact ⟨Nat.le_refl _, by show (0 : Int).natAbs < _; exact Nat.two_pow_pos _⟩
  | .if_ c a b => by
    have h1 := run_size (t := t) hv a
    have h2 := run_size (t := t) hv b
    show wtA (if holds v c = true then run t v a else run t v b).1 ≤ wtC c + wtA a + wtA b ∧ (if holds v c = true then run t v a else run t v b).2.natAbs < 2 ^ (wtC c + wtA a + wtA b)
    by_cases h : holds v c = true
    · rw [if_pos h]; exact ⟨by omega, Nat.lt_of_lt_of_le h1.2 (Nat.pow_le_pow_right (by decide) (by omega))⟩
    · rw [if_neg h]; exact ⟨by omega, Nat.lt_of_lt_of_le h2.2 (Nat.pow_le_pow_right (by decide) (by omega))⟩
  | .give a => by
    have h1 := run_size (t := t) hv a
    refine ⟨Nat.le_trans (wtA_give _) h1.1, ?_⟩
    show (-(run t v a).2).natAbs < _
    rw [Int.natAbs_neg]; exact h1.2
  | .times e a => by
    have h1 := run_size (t := t) hv a
    have h2 := ev_lt hv e
    show wtA (if ev v e = 0 then (Ag.nothing, (0 : Int)) else (timesOf (ev v e) (run t v a).1, ev v e * (run t v a).2)).1 ≤ wt e + wtA a ∧ (if ev v e = 0 then (Ag.nothing, (0 : Int)) else (timesOf (ev v e) (run t v a).1, ev v e * (run t v a).2)).2.natAbs < 2 ^ (wt e + wtA a)
    by_cases h : ev v e = 0
    · rw [if_pos h]; exact ⟨by show 0 ≤ _; omega, by show (0 : Int).natAbs < _; exact Nat.two_pow_pos _⟩
    · rw [if_neg h]
      refine ⟨Nat.le_trans (wtA_times _ h h2) (by omega), ?_⟩
      show (ev v e * (run t v a).2).natAbs < _
      rw [Int.natAbs_mul]
      exact pow_mul_lt _ _ _ _ h2 h1.2
  | .halt_ c a => by
    have h1 := run_size (t := t) hv a
    show wtA (if holds v c = true then (Ag.nothing, (0 : Int)) else (stopOf c (run t v a).1, (run t v a).2)).1 ≤ wtC c + wtA a ∧ (if holds v c = true then (Ag.nothing, (0 : Int)) else (stopOf c (run t v a).1, (run t v a).2)).2.natAbs < 2 ^ (wtC c + wtA a)
    by_cases h : holds v c = true
    · rw [if_pos h]; exact ⟨by show 0 ≤ _; omega, by show (0 : Int).natAbs < _; exact Nat.two_pow_pos _⟩
    · rw [if_neg h]; exact ⟨Nat.le_trans (wtA_stop _ _) (by omega), Nat.lt_of_lt_of_le h1.2 (Nat.pow_le_pow_right (by decide) (by omega))⟩
theorem chosen_size (w : Bool) : ∀ (a : Ag) (i : Nat), wtA (chosen w i a) ≤ wtA a
  | .both a b, i => by
    rw [chosen]
    have h1 := chosen_size w a i
    have h2 := chosen_size w b (i - (waits false a).length)
    split
    · show wtA _ + wtA b ≤ wtA a + wtA b; omega
    · show wtA a + wtA _ ≤ wtA a + wtA b; omega
  | .or a b, i => by
    show wtA (if w = true then b else a) ≤ wtA a + wtA b
    split <;> omega
  | .else_ a b, i => by
    show wtA (if w = true then b else a) ≤ wtA a + wtA b
    split <;> omega
  | .may k a, i => Nat.le_refl _
  | .give a, i => chosen_size w a i
  | .times e a, i => by show wt e + wtA _ ≤ wt e + wtA a; have := chosen_size w a i; omega
  | .halt_ c a, i => by show wtC c + wtA _ ≤ wtC c + wtA a; have := chosen_size w a i; omega
  | .nothing, _ => Nat.le_refl _
  | .pay _, _ => Nat.le_refl _
  | .at_ _ _, _ => Nat.le_refl _
  | .if_ _ _ _, _ => Nat.le_refl _

/-! ## what is read from a text -/
def mW : Made → Nat
  | .num n => n.log2 + 1
  | .name _ => 20
  | .exp e => wt e
  | .cond c => wtC c
  | .ag a => wtA a
def load (l : List Made) (r : Rest) : Nat := (l.map mW).sum + 24 * r.length
/-- the numbers of the tokens have 7 digits at most -/
def Seven (r : Rest) : Prop := ∀ x ∈ r, ∀ n, x.2 = .num n → n < 10000000
theorem make_load {w : Bytes} {l l' : List Made} (h : make w l = some l') : (l'.map mW).sum ≤ (l.map mW).sum := by
  unfold make at h
  iterate 25 (rcases ite_some h with ⟨_, h1⟩ | ⟨_, h⟩; (clear h; first | (split at h1 <;> first | (cases h1; done) | (obtain rfl := Option.some.inj h1; simp [mW, wt, wtC, wtA] <;> omega)) | (obtain rfl := Option.some.inj h1; simp [mW, wt, wtC, wtA] <;> omega)))
  cases h
theorem val_load {r : Rest} {l : List Made} (h : Seven r) (h0 : r ≠ []) : ((valOf r l).map mW).sum + 24 * r.tail.length ≤ (l.map mW).sum + 24 * r.length := by
  cases r with
  | nil => exact absurd rfl h0
  | cons x t =>
    obtain ⟨p, tk⟩ := x
    cases tk with
    | num n =>
      have h1 := h (p, .num n) (by simp) n rfl
      have h2 : n.log2 + 1 ≤ 24 := by
        by_cases z : n = 0
        · subst z; decide
        · exact log2_lt z (by omega)
      simp [valOf, mW]; omega
    | sign c => simp [valOf]; omega
    | word w =>
      by_cases hn : isName w = true
      · simp [valOf, hn, mW]; omega
      · simp [valOf, hn]; omega
end Mx
namespace Mx
open Co01
theorem seven_tail {r : Rest} (h : Seven r) : Seven r.tail := fun x hx => h x (List.mem_of_mem_tail hx)
theorem move_load {e : Nat} {p q : PS} (h : move e p = .next q) (hs : Seven p.toks) : load q.made q.toks ≤ load p.made p.toks ∧ Seven q.toks := by
  obtain ⟨goals, made, toks⟩ := p
  cases goals with
  | nil => cases h
  | cons g gs =>
    cases g with
    | mk w =>
      have h' : (match make w made with | some l => Out.next ⟨gs, l, toks⟩ | none => .stuck) = .next q := h
      cases hm : make w made with
      | none => rw [hm] at h'; cases h'
      | some l =>
        rw [hm] at h'
        injection h' with h''
        subst h''
        refine ⟨?_, hs⟩
        exact Nat.add_le_add_right (make_load hm) _
    | sym z =>
      have h' : (if z = kindAt toks then Out.next ⟨gs, valOf toks made, toks.tail⟩ else match put z (kindAt toks) with | some l => .next ⟨l ++ gs, made, toks⟩ | none => .fault (placeOf e toks)) = .next q := h
      by_cases hz : z = kindAt toks
      · rw [if_pos hz] at h'
        injection h' with h''
        subst h''
        refine ⟨?_, seven_tail hs⟩
        cases toks with
        | nil => exact Nat.le_refl _
        | cons x t => exact val_load hs (by simp)
      · rw [if_neg hz] at h'
        cases hp : put z (kindAt toks) with
        | none => rw [hp] at h'; cases h'
        | some l =>
          rw [hp] at h'
          injection h' with h''
          subst h''
          exact ⟨Nat.le_refl _, hs⟩
theorem goes_load {e n : Nat} {p q : PS} (g : Goes e n p q) (hs : Seven p.toks) : load q.made q.toks ≤ load p.made p.toks := by
  induction g with
  | here => exact Nat.le_refl _
  | turn h g ih =>
    obtain ⟨h1, h2⟩ := move_load h hs
    exact Nat.le_trans (ih h2) h1
theorem value_lt : ∀ (l : Bytes) (n : Nat), (∀ c ∈ l, digit c = true) → l.foldl (fun (n c : Nat) => 10 * n + (c - 48)) n < (n + 1) * 10 ^ l.length
  | [], n, _ => by simp
  | c :: l, n, h => by
    have hc : c - 48 ≤ 9 := by
      have := h c (by simp)
      simp [digit] at this
      omega
    have ih := value_lt l (10 * n + (c - 48)) fun d hd => h d (by simp [hd])
    show l.foldl _ (10 * n + (c - 48)) < _
    refine Nat.lt_of_lt_of_le ih ?_
    rw [List.length_cons, Nat.pow_succ]
    have : (10 * n + (c - 48) + 1) ≤ (n + 1) * 10 := by omega
    calc (10 * n + (c - 48) + 1) * 10 ^ l.length ≤ ((n + 1) * 10) * 10 ^ l.length := Nat.mul_le_mul_right _ this
      _ = (n + 1) * (10 ^ l.length * 10) := by rw [Nat.mul_assoc, Nat.mul_comm 10]
theorem mem_tw {f : Nat → Bool} : ∀ {l : Bytes} {d : Nat}, d ∈ l.takeWhile f → f d = true
  | [], _, h => by cases h
  | c :: l, d, h => by
    rw [List.takeWhile_cons] at h
    cases q : f c with
    | false => rw [q] at h; cases h
    | true =>
      rw [q] at h
      rcases List.mem_cons.mp h with rfl | h
      · exact q
      · exact mem_tw h
theorem lex_seven : ∀ (k p : Nat) (l : Bytes) (r : List (Nat × Tok)), lex k p l = .ok r → Seven r
  | 0, _, _, _, h => by cases h
  | k + 1, _, [], r, h => by
    have h' : (Except.ok [] : Except Nat (List (Nat × Tok))) = .ok r := h
    injection h' with h''
    subst h''
    intro x hx; cases hx
  | k + 1, p, c :: l, r, h => by
    rw [lex] at h
    have sub : ∀ (f : Except Nat (List (Nat × Tok))) (x : Nat × Tok), (∀ n, x.2 = .num n → n < 10000000) → (∀ r', f = .ok r' → Seven r') → f.map (fun r => x :: r) = .ok r → Seven r := fun f x hx hf e => by
      cases q : f with
      | error z => rw [q] at e; cases e
      | ok r' =>
        rw [q] at e
        injection e with e'
        subst e'
        intro y hy
        rcases List.mem_cons.mp hy with rfl | hy
        · exact hx
        · exact hf r' q y hy
    split at h
    · exact lex_seven k _ l r h
    · split at h
      · dsimp only at h
        split at h
        · cases h
        · exact sub _ _ (fun n e => by cases e) (fun r' e => lex_seven k _ _ r' e) h
      · split at h
        · dsimp only at h
          split at h
          · cases h
          · rename_i hw
            refine sub _ _ (fun n e => ?_) (fun r' e => lex_seven k _ _ r' e) h
            injection e with e'
            subst e'
            have h1 := value_lt ((c :: l).takeWhile digit) 0 fun d hd => mem_tw hd
            have h2 : 10 ^ ((c :: l).takeWhile digit).length ≤ 10 ^ 7 := Nat.pow_le_pow_right (by decide) (by omega)
            unfold valueOf
            omega
        · split at h
          · exact sub _ _ (fun n e => by cases e) (fun r' e => lex_seven k _ l r' e) h
          · cases h
/-- an agreement that is read: its numbers together -/
theorem read_size {t : Bytes} {a : Ag} (h : readText t = .ok a) : wtA a ≤ 24 * t.length := by
  obtain ⟨r, n, h1, h2, _, h3, _⟩ := read_ok h
  have := goes_load h3 (lex_seven _ _ _ _ h1)
  simp [load, mW] at this
  omega
end Mx
end
section
set_option linter.all false
/-! # Expressions and conditions as steps, each behind its parts. Plain Lean. -/
namespace Mx
open Co01
inductive Op2 where
  | add | sub | mul | max | min
  deriving DecidableEq
inductive Cmp where
  | less | same | more
  deriving DecidableEq
inductive XS where
  | num (n : Nat)
  | name (b : Bytes)
  | neg
  | bin (o : Op2)
  | cmp (o : Cmp)
  | not
  | and
  | or
  deriving DecidableEq
inductive RV where
  | int (i : Int)
  | bl (b : Bool)
  deriving DecidableEq
def postE : Exp → List XS
  | .num n => [.num n]
  | .name b => [.name b]
  | .neg a => postE a ++ [.neg]
  | .add a b => postE a ++ postE b ++ [.bin .add]
  | .sub a b => postE a ++ postE b ++ [.bin .sub]
  | .mul a b => postE a ++ postE b ++ [.bin .mul]
  | .max a b => postE a ++ postE b ++ [.bin .max]
  | .min a b => postE a ++ postE b ++ [.bin .min]
def postC : Cond → List XS
  | .less a b => postE a ++ postE b ++ [.cmp .less]
  | .same a b => postE a ++ postE b ++ [.cmp .same]
  | .more a b => postE a ++ postE b ++ [.cmp .more]
  | .not a => postC a ++ [.not]
  | .and a b => postC a ++ postC b ++ [.and]
  | .or a b => postC a ++ postC b ++ [.or]
def op2 : Op2 → Int → Int → Int
  | .add, a, b => a + b
  | .sub, a, b => a - b
  | .mul, a, b => a * b
  | .max, a, b => if a < b then b else a
  | .min, a, b => if b < a then b else a
def cmp2 : Cmp → Int → Int → Bool
  | .less, a, b => decide (a < b)
  | .same, a, b => decide (a = b)
  | .more, a, b => decide (b < a)
/-- one step taken up; the last first -/
def rstep (v : Seen) : XS → List RV → Option (List RV)
  | .num n, l => some (.int n :: l)
  | .name b, l => some (.int (seen v b) :: l)
  | .neg, .int a :: l => some (.int (-a) :: l)
  | .bin o, .int b :: .int a :: l => some (.int (op2 o a b) :: l)
  | .cmp o, .int b :: .int a :: l => some (.bl (cmp2 o a b) :: l)
  | .not, .bl a :: l => some (.bl (!a) :: l)
  | .and, .bl b :: .bl a :: l => some (.bl (a && b) :: l)
  | .or, .bl b :: .bl a :: l => some (.bl (a || b) :: l)
  | _, _ => none
def rsteps (v : Seen) : List XS → List RV → Option (List RV)
  | [], l => some l
  | x :: r, l => (rstep v x l).bind (rsteps v r)
theorem rsteps_app (v : Seen) : ∀ (x y : List XS) (l : List RV), rsteps v (x ++ y) l = (rsteps v x l).bind (rsteps v y)
  | [], _, _ => rfl
  | a :: x, y, l => by
    show (rstep v a l).bind (rsteps v (x ++ y)) = ((rstep v a l).bind (rsteps v x)).bind (rsteps v y)
    cases rstep v a l with
    | none => rfl
    | some l' => exact rsteps_app v x y l'
theorem rsteps_postE (v : Seen) : ∀ (e : Exp) (l : List RV), rsteps v (postE e) l = some (.int (ev v e) :: l)
  | .num _, _ => rfl
  | .name _, _ => rfl
  | .neg a, l => by rw [postE, rsteps_app, rsteps_postE v a]; rfl
  | .add a b, l => by rw [postE, rsteps_app, rsteps_app, rsteps_postE v a, Option.bind_some, rsteps_postE v b]; rfl
  | .sub a b, l => by rw [postE, rsteps_app, rsteps_app, rsteps_postE v a, Option.bind_some, rsteps_postE v b]; rfl
  | .mul a b, l => by rw [postE, rsteps_app, rsteps_app, rsteps_postE v a, Option.bind_some, rsteps_postE v b]; rfl
  | .max a b, l => by rw [postE, rsteps_app, rsteps_app, rsteps_postE v a, Option.bind_some, rsteps_postE v b]; rfl
  | .min a b, l => by rw [postE, rsteps_app, rsteps_app, rsteps_postE v a, Option.bind_some, rsteps_postE v b]; rfl
theorem rsteps_postC (v : Seen) : ∀ (c : Cond) (l : List RV), rsteps v (postC c) l = some (.bl (holds v c) :: l)
  | .less a b, l => by rw [postC, rsteps_app, rsteps_app, rsteps_postE v a, Option.bind_some, rsteps_postE v b]; rfl
  | .same a b, l => by rw [postC, rsteps_app, rsteps_app, rsteps_postE v a, Option.bind_some, rsteps_postE v b]; rfl
  | .more a b, l => by rw [postC, rsteps_app, rsteps_app, rsteps_postE v a, Option.bind_some, rsteps_postE v b]; rfl
  | .not a, l => by rw [postC, rsteps_app, rsteps_postC v a]; rfl
  | .and a b, l => by rw [postC, rsteps_app, rsteps_app, rsteps_postC v a, Option.bind_some, rsteps_postC v b]; rfl
  | .or a b, l => by rw [postC, rsteps_app, rsteps_app, rsteps_postC v a, Option.bind_some, rsteps_postC v b]; rfl
/-- every part of a run is a run -/
theorem rsteps_take {v : Seen} {s : List XS} {l l2 : List RV} (h : rsteps v s l = some l2) (i : Nat) : ∃ m, rsteps v (s.take i) l = some m ∧ rsteps v (s.drop i) m = some l2 := by
  rw [← List.take_append_drop i s, rsteps_app] at h
  cases e : rsteps v (s.take i) l with
  | none => rw [e] at h; cases h
  | some m => rw [e] at h; exact ⟨m, rfl, h⟩
/-- .. and one step more -/
theorem rsteps_next {v : Seen} {s : List XS} {l l2 : List RV} (h : rsteps v s l = some l2) {i : Nat} {x : XS} (hx : s[i]? = some x) {m : List RV} (hm : rsteps v (s.take i) l = some m) : ∃ m', rstep v x m = some m' ∧ rsteps v (s.take (i + 1)) l = some m' := by
  obtain ⟨m', h1, _⟩ := rsteps_take h (i + 1)
  have e : s.take (i + 1) = s.take i ++ [x] := by rw [List.take_add_one, hx]; rfl
  have h2 := h1
  rw [e, rsteps_app, hm, Option.bind_some] at h2
  refine ⟨m', ?_, h1⟩
  cases q : rstep v x m with
  | none => simp [rsteps, q] at h2
  | some m2 => simp [rsteps, q] at h2; rw [h2]
/-- the stack is no longer than the steps gone -/
theorem rstep_len {v : Seen} {x : XS} {m m' : List RV} (h : rstep v x m = some m') : m'.length ≤ m.length + 1 := by
  unfold rstep at h
  split at h <;> first | (cases h; simp; try omega) | (cases h)
theorem rsteps_len {v : Seen} : ∀ {s : List XS} {l m : List RV}, rsteps v s l = some m → m.length ≤ l.length + s.length
  | [], l, m, h => by cases h; simp
  | x :: r, l, m, h => by
    cases q : rstep v x l with
    | none => simp [rsteps, q] at h
    | some l' =>
      simp [rsteps, q] at h
      have h1 := rstep_len q
      have h2 := rsteps_len h
      simp
      omega
/-! ## sizes on the stack -/
def wtX : XS → Nat
  | .num n => n.log2 + 1
  | .name _ => 20
  | _ => 0
def wtS (s : List XS) : Nat := (s.map wtX).sum
theorem wtS_app (a b : List XS) : wtS (a ++ b) = wtS a + wtS b := by simp [wtS]
theorem wtS_postE : ∀ e : Exp, wtS (postE e) = wt e
  | .num _ => rfl
  | .name _ => rfl
  | .neg a => by rw [postE, wtS_app, wtS_postE a]; rfl
  | .add a b => by rw [postE, wtS_app, wtS_app, wtS_postE a, wtS_postE b]; rfl
  | .sub a b => by rw [postE, wtS_app, wtS_app, wtS_postE a, wtS_postE b]; rfl
  | .mul a b => by rw [postE, wtS_app, wtS_app, wtS_postE a, wtS_postE b]; rfl
  | .max a b => by rw [postE, wtS_app, wtS_app, wtS_postE a, wtS_postE b]; rfl
  | .min a b => by rw [postE, wtS_app, wtS_app, wtS_postE a, wtS_postE b]; rfl
inductive Fits : List RV → Nat → Prop
  | nil (k : Nat) : Fits [] k
  | int {i : Int} {j k : Nat} {l : List RV} : i.natAbs < 2 ^ j → Fits l k → Fits (.int i :: l) (j + k)
  | bl {b : Bool} {k : Nat} {l : List RV} : Fits l k → Fits (.bl b :: l) k
theorem Fits.more {l : List RV} {k : Nat} (h : Fits l k) : ∀ d, Fits l (k + d) := by
  induction h with
  | nil k => intro d; exact .nil _
  | int h _ ih => intro d; rw [Nat.add_assoc]; exact .int h (ih d)
  | bl _ ih => intro d; exact .bl (ih d)
theorem Fits.le {l : List RV} {k j : Nat} (h : Fits l k) (hk : k ≤ j) : Fits l j := by
  have := h.more (j - k)
  rwa [Nat.add_sub_cancel' hk] at this
theorem Fits.at_int {l : List RV} {i : Int} {k : Nat} (h : Fits (.int i :: l) k) : ∃ j k', i.natAbs < 2 ^ j ∧ Fits l k' ∧ k = j + k' := by
  cases h with
  | int h1 h2 => exact ⟨_, _, h1, h2, rfl⟩
theorem Fits.at_bl {l : List RV} {b : Bool} {k : Nat} (h : Fits (.bl b :: l) k) : Fits l k := by
  cases h with
  | bl h1 => exact h1
theorem Fits.step {v : Seen} (hv : Small v) {x : XS} {l m : List RV} {k : Nat} (h : Fits l k) (e : rstep v x l = some m) : Fits m (k + wtX x) := by
  unfold rstep at e
  split at e
  · rename_i l n
    cases e
    show Fits _ (k + (n.log2 + 1))
    rw [Nat.add_comm]
    exact .int (by simpa using Nat.lt_log2_self) h
  · rename_i l b
    cases e
    show Fits _ (k + 20)
    rw [Nat.add_comm]
    refine .int ?_ h
    have := hv b
    show (seen v b).natAbs < 2 ^ 20
    omega
  · rename_i a l
    cases e
    obtain ⟨j, k', h1, h2, rfl⟩ := h.at_int
    show Fits _ (j + k')
    exact .int (by rw [Int.natAbs_neg]; exact h1) h2
  · rename_i o b a l
    cases e
    obtain ⟨j, k', h1, h2, rfl⟩ := h.at_int
    obtain ⟨j2, k2, h3, h4, rfl⟩ := h2.at_int
    show Fits _ (j + (j2 + k2))
    rw [← Nat.add_assoc, Nat.add_comm j j2]
    refine .int ?_ h4
    cases o with
    | add => have := pow_add_le _ _ _ _ h3 h1; show (a + b).natAbs < _; omega
    | sub => have := pow_add_le _ _ _ _ h3 h1; show (a - b).natAbs < _; omega
    | mul => show (a * b).natAbs < _; rw [Int.natAbs_mul]; exact pow_mul_lt _ _ _ _ h3 h1
    | max =>
      show (if a < b then b else a).natAbs < _
      split
      · exact pow_right _ _ _ h1
      · exact pow_left _ _ _ h3
    | min =>
      show (if b < a then b else a).natAbs < _
      split
      · exact pow_right _ _ _ h1
      · exact pow_left _ _ _ h3
  · cases e
    obtain ⟨j, k', h1, h2, rfl⟩ := h.at_int
    obtain ⟨j2, k2, h3, h4, rfl⟩ := h2.at_int
    exact .bl (h4.le (by show k2 ≤ j + (j2 + k2); omega))
  · cases e; exact .bl h.at_bl
  · cases e; exact .bl h.at_bl.at_bl
  · cases e; exact .bl h.at_bl.at_bl
  · cases e
theorem Fits.steps {v : Seen} (hv : Small v) : ∀ {s : List XS} {l m : List RV} {k : Nat}, Fits l k → rsteps v s l = some m → Fits m (k + wtS s)
  | [], l, m, k, h, e => by cases e; exact h
  | x :: r, l, m, k, h, e => by
    cases q : rstep v x l with
    | none => simp [rsteps, q] at e
    | some l' =>
      simp [rsteps, q] at e
      have h2 := Fits.steps hv (h.step hv q) e
      rw [Nat.add_assoc] at h2
      exact h2
theorem wtS_take (s : List XS) (i : Nat) : wtS (s.take i) ≤ wtS s := by
  conv => rhs; rw [← List.take_append_drop i s, wtS_app]
  omega
/-- two ints on top of a run: together they have no more bits than the steps weigh -/
theorem two_bits {v : Seen} (hv : Small v) {s : List XS} {i : Nat} {a b : Int} {l : List RV} (e : rsteps v (s.take i) [] = some (.int b :: .int a :: l)) : a.natAbs.log2 + b.natAbs.log2 ≤ wtS s := by
  have f := (Fits.nil 0).steps hv e
  obtain ⟨j, k', h1, h2, e1⟩ := f.at_int
  obtain ⟨j2, k2, h3, _, e2⟩ := h2.at_int
  have := wtS_take s i
  have l1 : b.natAbs.log2 ≤ j := by
    by_cases c : b.natAbs = 0
    · rw [c]; simp
    · have := log2_lt c h1; omega
  have l2 : a.natAbs.log2 ≤ j2 := by
    by_cases c : a.natAbs = 0
    · rw [c]; simp
    · have := log2_lt c h3; omega
  omega
end Mx
end
section
set_option linter.all false
/-! # Writing: steps taken up one by one, each with its word and its detail's text. Plain Lean. -/
namespace Mx
open Co01
abbrev WS := List (Bytes × Bytes)
/-- how closely a step's tokens belong together -/
def closeB (w : Bytes) : Nat := if w = ascii "+" ∨ w = ascii "-" ∨ w = ascii "|" ∨ w = ascii "or" ∨ w = ascii "else" then 0 else if w = ascii "*" ∨ w = ascii "&" ∨ w = ascii "and" then 1 else 2
/-- what its parts must be at least -/
def kids (w : Bytes) : List Nat :=
  if w = ascii "number" ∨ w = ascii "name" ∨ w = ascii "nothing" ∨ w = ascii "pay" then []
  else if w = ascii "*" ∨ w = ascii "&" ∨ w = ascii "and" then [1, 2]
  else if w = ascii "+" ∨ w = ascii "-" ∨ w = ascii "|" ∨ w = ascii "or" ∨ w = ascii "else" then [0, 1]
  else if w = ascii "max" ∨ w = ascii "min" ∨ w = ascii "<" ∨ w = ascii "=" ∨ w = ascii ">" then [0, 0]
  else if w = ascii "if" then [2, 2]
  else [2]
/-- a part's text, in brackets where it isn't close enough -/
def withinB (w t : Bytes) (c : Nat) : Bytes := if c ≤ closeB w then t else if w = ascii "&" ∨ w = ascii "|" then 91 :: t ++ [93] else 40 :: t ++ [41]
/-- a step's text: its word, its detail's text, its parts' texts -/
def stepTxt (w d : Bytes) (ps : List Bytes) : Bytes :=
  if w = ascii "number" ∨ w = ascii "name" then d
  else if w = ascii "nothing" then w
  else if w = ascii "pay" then ascii "pay " ++ d
  else match ps with
    | [a] => if w = ascii "negative" then 45 :: a
      else if w = ascii "at" ∨ w = ascii "may" then w ++ (32 :: (d ++ 32 :: a))
      else if w = ascii "times" ∨ w = ascii "stop" then w ++ (32 :: (d ++ (58 :: 32 :: a)))
      else w ++ 32 :: a
    | [a, b] => if w = ascii "max" ∨ w = ascii "min" then w ++ (40 :: (a ++ (44 :: (b ++ [41]))))
      else if w = ascii "if" then ascii "if " ++ (d ++ (ascii " then " ++ (a ++ (ascii " otherwise " ++ b))))
      else a ++ (32 :: (w ++ 32 :: b))
    | _ => []
def zipB : List (Bytes × Bytes) → List Nat → List Bytes
  | x :: l, c :: k => withinB x.1 x.2 c :: zipB l k
  | _, _ => []
/-- one step taken up; the stack's last first -/
def wstep (x : Bytes × Bytes) (l : WS) : Option WS := if (kids x.1).length ≤ l.length then some ((x.1, stepTxt x.1 x.2 (zipB (l.take (kids x.1).length).reverse (kids x.1))) :: l.drop (kids x.1).length) else none
def wsteps : WS → WS → Option WS
  | [], l => some l
  | x :: r, l => (wstep x l).bind (wsteps r)
theorem wsteps_app : ∀ (x y l : WS), wsteps (x ++ y) l = (wsteps x l).bind (wsteps y)
  | [], _, _ => rfl
  | a :: x, y, l => by
    show (wstep a l).bind (wsteps (x ++ y)) = ((wstep a l).bind (wsteps x)).bind (wsteps y)
    cases wstep a l with
    | none => rfl
    | some l' => exact wsteps_app x y l'
theorem wstep0 {w d : Bytes} {l : WS} (h : kids w = []) : wstep (w, d) l = some ((w, stepTxt w d []) :: l) := by
  simp [wstep, h, zipB]
theorem wstep1 {w d : Bytes} {c : Nat} {a : Bytes × Bytes} {l : WS} (h : kids w = [c]) : wstep (w, d) (a :: l) = some ((w, stepTxt w d [withinB a.1 a.2 c]) :: l) := by
  simp [wstep, h, zipB]
theorem wstep2 {w d : Bytes} {c e : Nat} {a b : Bytes × Bytes} {l : WS} (h : kids w = [c, e]) : wstep (w, d) (b :: a :: l) = some ((w, stepTxt w d [withinB a.1 a.2 c, withinB b.1 b.2 e]) :: l) := by
  simp [wstep, h, zipB]
/-! ## expressions, conditions -/
def wdO : Op2 → Bytes
  | .add => ascii "+" | .sub => ascii "-" | .mul => ascii "*" | .max => ascii "max" | .min => ascii "min"
def wdK : Cmp → Bytes
  | .less => ascii "<" | .same => ascii "=" | .more => ascii ">"
def wdX : XS → Bytes
  | .num _ => ascii "number" | .name _ => ascii "name" | .neg => ascii "negative" | .bin o => wdO o | .cmp o => wdK o | .not => ascii "not" | .and => ascii "&" | .or => ascii "|"
def dtX : XS → Bytes
  | .num n => ascii (toString n) | .name b => b | _ => []
abbrev wx (x : XS) : Bytes × Bytes := (wdX x, dtX x)
def topE : Exp → Bytes
  | .num _ => ascii "number" | .name _ => ascii "name" | .neg _ => ascii "negative" | .add _ _ => ascii "+" | .sub _ _ => ascii "-" | .mul _ _ => ascii "*" | .max _ _ => ascii "max" | .min _ _ => ascii "min"
def topC : Cond → Bytes
  | .less _ _ => ascii "<" | .same _ _ => ascii "=" | .more _ _ => ascii ">" | .not _ => ascii "not" | .and _ _ => ascii "&" | .or _ _ => ascii "|"
theorem withinE {l : Nat} (hl : l ≤ 2) (e : Exp) : withinB (topE e) (expText 0 e) l = expText l e := by
  have : l = 0 ∨ l = 1 ∨ l = 2 := by omega
  rcases this with rfl | rfl | rfl <;> cases e <;> rfl
theorem withinC {l : Nat} (hl : l ≤ 2) (c : Cond) : withinB (topC c) (condText 0 c) l = condText l c := by
  have : l = 0 ∨ l = 1 ∨ l = 2 := by omega
  rcases this with rfl | rfl | rfl <;> cases c <;> rfl
theorem wsteps_E : ∀ (e : Exp) (l : WS), wsteps ((postE e).map wx) l = some ((topE e, expText 0 e) :: l)
  | .num _, _ => rfl
  | .name _, _ => rfl
  | .neg a, l => by
    rw [postE, List.map_append, wsteps_app, wsteps_E a, Option.bind_some]
    show (wstep (ascii "negative", []) _).bind (wsteps []) = _
    rw [wstep1 (c := 2) (by decide), withinE (by omega)]; rfl
  | .add a b, l => by
    rw [postE, List.map_append, List.map_append, wsteps_app, wsteps_app, wsteps_E a, Option.bind_some, wsteps_E b, Option.bind_some]
    show (wstep (ascii "+", []) _).bind (wsteps []) = _
    rw [wstep2 (c := 0) (e := 1) (by decide), withinE (by omega), withinE (by omega)]; rfl
  | .sub a b, l => by
    rw [postE, List.map_append, List.map_append, wsteps_app, wsteps_app, wsteps_E a, Option.bind_some, wsteps_E b, Option.bind_some]
    show (wstep (ascii "-", []) _).bind (wsteps []) = _
    rw [wstep2 (c := 0) (e := 1) (by decide), withinE (by omega), withinE (by omega)]; rfl
  | .mul a b, l => by
    rw [postE, List.map_append, List.map_append, wsteps_app, wsteps_app, wsteps_E a, Option.bind_some, wsteps_E b, Option.bind_some]
    show (wstep (ascii "*", []) _).bind (wsteps []) = _
    rw [wstep2 (c := 1) (e := 2) (by decide), withinE (by omega), withinE (by omega)]; rfl
  | .max a b, l => by
    rw [postE, List.map_append, List.map_append, wsteps_app, wsteps_app, wsteps_E a, Option.bind_some, wsteps_E b, Option.bind_some]
    show (wstep (ascii "max", []) _).bind (wsteps []) = _
    rw [wstep2 (c := 0) (e := 0) (by decide), withinE (by omega), withinE (by omega)]
    show some ((_, ascii "max" ++ (40 :: (expText 0 a ++ (44 :: (expText 0 b ++ [41]))))) :: l) = some ((_, ((ascii "max(" ++ expText 0 a) ++ 44 :: expText 0 b) ++ [41]) :: l)
    have e : ascii "max(" = ascii "max" ++ [40] := by decide
    rw [e]
    simp [topE]
  | .min a b, l => by
    rw [postE, List.map_append, List.map_append, wsteps_app, wsteps_app, wsteps_E a, Option.bind_some, wsteps_E b, Option.bind_some]
    show (wstep (ascii "min", []) _).bind (wsteps []) = _
    rw [wstep2 (c := 0) (e := 0) (by decide), withinE (by omega), withinE (by omega)]
    show some ((_, ascii "min" ++ (40 :: (expText 0 a ++ (44 :: (expText 0 b ++ [41]))))) :: l) = some ((_, ((ascii "min(" ++ expText 0 a) ++ 44 :: expText 0 b) ++ [41]) :: l)
    have e : ascii "min(" = ascii "min" ++ [40] := by decide
    rw [e]
    simp [topE]
theorem wsteps_C : ∀ (c : Cond) (l : WS), wsteps ((postC c).map wx) l = some ((topC c, condText 0 c) :: l)
  | .less a b, l => by
    rw [postC, List.map_append, List.map_append, wsteps_app, wsteps_app, wsteps_E a, Option.bind_some, wsteps_E b, Option.bind_some]
    show (wstep (ascii "<", []) _).bind (wsteps []) = _
    rw [wstep2 (c := 0) (e := 0) (by decide), withinE (by omega), withinE (by omega)]; rfl
  | .same a b, l => by
    rw [postC, List.map_append, List.map_append, wsteps_app, wsteps_app, wsteps_E a, Option.bind_some, wsteps_E b, Option.bind_some]
    show (wstep (ascii "=", []) _).bind (wsteps []) = _
    rw [wstep2 (c := 0) (e := 0) (by decide), withinE (by omega), withinE (by omega)]; rfl
  | .more a b, l => by
    rw [postC, List.map_append, List.map_append, wsteps_app, wsteps_app, wsteps_E a, Option.bind_some, wsteps_E b, Option.bind_some]
    show (wstep (ascii ">", []) _).bind (wsteps []) = _
    rw [wstep2 (c := 0) (e := 0) (by decide), withinE (by omega), withinE (by omega)]; rfl
  | .not a, l => by
    rw [postC, List.map_append, wsteps_app, wsteps_C a, Option.bind_some]
    show (wstep (ascii "not", []) _).bind (wsteps []) = _
    rw [wstep1 (c := 2) (by decide), withinC (by omega)]; rfl
  | .and a b, l => by
    rw [postC, List.map_append, List.map_append, wsteps_app, wsteps_app, wsteps_C a, Option.bind_some, wsteps_C b, Option.bind_some]
    show (wstep (ascii "&", []) _).bind (wsteps []) = _
    rw [wstep2 (c := 1) (e := 2) (by decide), withinC (by omega), withinC (by omega)]; rfl
  | .or a b, l => by
    rw [postC, List.map_append, List.map_append, wsteps_app, wsteps_app, wsteps_C a, Option.bind_some, wsteps_C b, Option.bind_some]
    show (wstep (ascii "|", []) _).bind (wsteps []) = _
    rw [wstep2 (c := 0) (e := 1) (by decide), withinC (by omega), withinC (by omega)]; rfl
/-! ## agreements -/
def dtA : Det → Bytes
  | .none => [] | .num n => ascii (toString n) | .exp e => expText 0 e | .cond c => condText 0 c
abbrev wa (x : St) : Bytes × Bytes := (x.w, dtA x.d)
def topA : Ag → Bytes
  | .nothing => ascii "nothing" | .pay _ => ascii "pay" | .both _ _ => ascii "and" | .or _ _ => ascii "or" | .else_ _ _ => ascii "else" | .at_ _ _ => ascii "at" | .may _ _ => ascii "may"
  | .if_ _ _ _ => ascii "if" | .give _ => ascii "give" | .times _ _ => ascii "times" | .halt_ _ _ => ascii "stop"
theorem withinA {l : Nat} (hl : l ≤ 2) (a : Ag) : withinB (topA a) (text 0 a) l = text l a := by
  have : l = 0 ∨ l = 1 ∨ l = 2 := by omega
  rcases this with rfl | rfl | rfl <;> cases a <;> rfl
theorem wsteps_A : ∀ (a : Ag) (l : WS), wsteps ((post a).map wa) l = some ((topA a, text 0 a) :: l)
  | .nothing, _ => rfl
  | .pay _, _ => rfl
  | .both a b, l => by
    rw [post, List.map_append, List.map_append, wsteps_app, wsteps_app, wsteps_A a, Option.bind_some, wsteps_A b, Option.bind_some]
    show (wstep (ascii "and", []) _).bind (wsteps []) = _
    rw [wstep2 (c := 1) (e := 2) (by decide), withinA (by omega), withinA (by omega)]; rfl
  | .or a b, l => by
    rw [post, List.map_append, List.map_append, wsteps_app, wsteps_app, wsteps_A a, Option.bind_some, wsteps_A b, Option.bind_some]
    show (wstep (ascii "or", []) _).bind (wsteps []) = _
    rw [wstep2 (c := 0) (e := 1) (by decide), withinA (by omega), withinA (by omega)]; rfl
  | .else_ a b, l => by
    rw [post, List.map_append, List.map_append, wsteps_app, wsteps_app, wsteps_A a, Option.bind_some, wsteps_A b, Option.bind_some]
    show (wstep (ascii "else", []) _).bind (wsteps []) = _
    rw [wstep2 (c := 0) (e := 1) (by decide), withinA (by omega), withinA (by omega)]; rfl
  | .at_ k a, l => by
    rw [post, List.map_append, wsteps_app, wsteps_A a, Option.bind_some]
    show (wstep (ascii "at", ascii (toString k)) _).bind (wsteps []) = _
    rw [wstep1 (c := 2) (by decide), withinA (by omega)]; rfl
  | .may k a, l => by
    rw [post, List.map_append, wsteps_app, wsteps_A a, Option.bind_some]
    show (wstep (ascii "may", ascii (toString k)) _).bind (wsteps []) = _
    rw [wstep1 (c := 2) (by decide), withinA (by omega)]; rfl
  | .if_ c a b, l => by
    rw [post, List.map_append, List.map_append, wsteps_app, wsteps_app, wsteps_A a, Option.bind_some, wsteps_A b, Option.bind_some]
    show (wstep (ascii "if", condText 0 c) _).bind (wsteps []) = _
    rw [wstep2 (c := 2) (e := 2) (by decide), withinA (by omega), withinA (by omega)]; rfl
  | .give a, l => by
    rw [post, List.map_append, wsteps_app, wsteps_A a, Option.bind_some]
    show (wstep (ascii "give", []) _).bind (wsteps []) = _
    rw [wstep1 (c := 2) (by decide), withinA (by omega)]; rfl
  | .times e a, l => by
    rw [post, List.map_append, wsteps_app, wsteps_A a, Option.bind_some]
    show (wstep (ascii "times", expText 0 e) _).bind (wsteps []) = _
    rw [wstep1 (c := 2) (by decide), withinA (by omega)]
    show some ((_, ascii "times" ++ (32 :: (expText 0 e ++ (58 :: 32 :: text 2 a)))) :: l) = some ((_, ascii "times" ++ (32 :: ((expText 0 e ++ [58]) ++ 32 :: text 2 a))) :: l)
    rw [List.append_assoc]; rfl
  | .halt_ c a, l => by
    rw [post, List.map_append, wsteps_app, wsteps_A a, Option.bind_some]
    show (wstep (ascii "stop", condText 0 c) _).bind (wsteps []) = _
    rw [wstep1 (c := 2) (by decide), withinA (by omega)]
    show some ((_, ascii "stop" ++ (32 :: (condText 0 c ++ (58 :: 32 :: text 2 a)))) :: l) = some ((_, ascii "stop" ++ (32 :: ((condText 0 c ++ [58]) ++ 32 :: text 2 a))) :: l)
    rw [List.append_assoc]; rfl
/-! ## a run, step by step; how long the texts come -/
theorem wsteps_take {s l l2 : WS} (h : wsteps s l = some l2) (i : Nat) : ∃ m, wsteps (s.take i) l = some m ∧ wsteps (s.drop i) m = some l2 := by
  rw [← List.take_append_drop i s, wsteps_app] at h
  cases e : wsteps (s.take i) l with
  | none => rw [e] at h; cases h
  | some m => rw [e] at h; exact ⟨m, rfl, h⟩
theorem wsteps_next {s l l2 : WS} (h : wsteps s l = some l2) {i : Nat} {x : Bytes × Bytes} (hx : s[i]? = some x) {m : WS} (hm : wsteps (s.take i) l = some m) : ∃ m', wstep x m = some m' ∧ wsteps (s.take (i + 1)) l = some m' := by
  obtain ⟨m', h1, _⟩ := wsteps_take h (i + 1)
  have e : s.take (i + 1) = s.take i ++ [x] := by rw [List.take_add_one, hx]; rfl
  have h2 := h1
  rw [e, wsteps_app, hm, Option.bind_some] at h2
  refine ⟨m', ?_, h1⟩
  cases q : wstep x m with
  | none => simp [wsteps, q] at h2
  | some m2 => simp [wsteps, q] at h2; rw [h2]
def lenW (l : WS) : Nat := (l.map fun x => x.2.length).sum
def costW (l : WS) : Nat := (l.map fun x => x.2.length + 60).sum
theorem kids_len (w : Bytes) : (kids w).length ≤ 2 := by
  unfold kids
  repeat (split; · simp)
  simp
theorem within_len (w t : Bytes) (c : Nat) : (withinB w t c).length ≤ t.length + 2 := by
  unfold withinB
  split
  · omega
  · split <;> simp
/-- the words that steps have -/
def WORDSW : List Bytes := ["number", "name", "negative", "+", "-", "*", "max", "min", "<", "=", ">", "not", "&", "|", "nothing", "pay", "give", "at", "may", "if", "times", "stop", "and", "or", "else"].map ascii
theorem word_len {w : Bytes} (h : w ∈ WORDSW) : w.length ≤ 8 := (by decide +kernel : ∀ w ∈ WORDSW, w.length ≤ 8) w h
theorem step_len {w d : Bytes} (hw : w ∈ WORDSW) (ps : List Bytes) : (stepTxt w d ps).length ≤ d.length + (ps.map List.length).sum + 30 := by
  have h := word_len hw
  unfold stepTxt
  split
  · omega
  · split
    · omega
    · split
      · simp [ascii]; omega
      · split
        · repeat' split
          all_goals simp <;> omega
        · repeat' split
          all_goals simp [ascii] <;> omega
        · simp
theorem zipB_len : ∀ (l : List (Bytes × Bytes)) (k : List Nat), ((zipB l k).map List.length).sum ≤ lenW l + 2 * k.length
  | [], k => by cases k <;> simp [zipB]
  | x :: l, [] => by simp [zipB]
  | x :: l, c :: k => by
    have h1 := within_len x.1 x.2 c
    have h2 := zipB_len l k
    simp only [zipB, List.map_cons, List.sum_cons, lenW, List.length_cons] at h2 ⊢
    omega
theorem lenW_app (a b : WS) : lenW (a ++ b) = lenW a + lenW b := by simp [lenW]
theorem lenW_rev (a : WS) : lenW a.reverse = lenW a := by simp [lenW]
theorem wstep_len {x : Bytes × Bytes} {l m : WS} (hw : x.1 ∈ WORDSW) (h : wstep x l = some m) : lenW m ≤ lenW l + (x.2.length + 60) := by
  unfold wstep at h
  split at h
  · cases h
    have h1 := step_len (d := x.2) hw (zipB (l.take (kids x.1).length).reverse (kids x.1))
    have h2 := zipB_len (l.take (kids x.1).length).reverse (kids x.1)
    rw [lenW_rev] at h2
    have h3 := kids_len x.1
    have h4 : lenW l = lenW (l.take (kids x.1).length) + lenW (l.drop (kids x.1).length) := by rw [← lenW_app, List.take_append_drop]
    show (stepTxt _ _ _).length + lenW (l.drop _) ≤ _
    omega
  · cases h
theorem wsteps_len : ∀ {s l m : WS}, (∀ x ∈ s, x.1 ∈ WORDSW) → wsteps s l = some m → lenW m ≤ lenW l + costW s
  | [], l, m, _, h => by cases h; simp [costW]
  | x :: r, l, m, hw, h => by
    cases q : wstep x l with
    | none => simp [wsteps, q] at h
    | some l' =>
      simp [wsteps, q] at h
      have h1 := wstep_len (hw x (by simp)) q
      have h2 := wsteps_len (fun y hy => hw y (by simp [hy])) h
      have : costW (x :: r) = x.2.length + 60 + costW r := by simp [costW]
      omega
theorem wstep_size {x : Bytes × Bytes} {l m : WS} (h : wstep x l = some m) : m.length ≤ l.length + 1 := by
  unfold wstep at h
  split at h
  · cases h; simp
  · cases h
theorem wsteps_size : ∀ {s l m : WS}, wsteps s l = some m → m.length ≤ l.length + s.length
  | [], l, m, h => by cases h; simp
  | x :: r, l, m, h => by
    cases q : wstep x l with
    | none => simp [wsteps, q] at h
    | some l' =>
      simp [wsteps, q] at h
      have h1 := wstep_size q
      have h2 := wsteps_size h
      simp; omega
end Mx
end
section
set_option Elab.async false
set_option linter.all false
set_option maxRecDepth 100000
/-! A long display whose keys are tuples of texts, evaluated to the very state. -/
namespace HdX
open PySem PySem.Calls PyProof.Rows
section
variable {prog : Program} {w : World} {A : Around} {E : Value → Shared → Prop} {env : Env}

/-- texts with their tokens -/
def strsAt : List Str → Nat → List Value
  | [], _ => []
  | z :: l, t => .str z t :: strsAt l (t + 1)
theorem strsAt_length : ∀ (l : List Str) (t : Nat), (strsAt l t).length = l.length
  | [], _ => rfl
  | _ :: l, t => congrArg (· + 1) (strsAt_length l (t + 1))
theorem strsAt_are : ∀ (l : List Str) (t : Nat), ItemsAre (strKind prog w) l (strsAt l t)
  | [], _ => .nil
  | z :: l, t => .cons (by show Value.isStrOf z (.str z t) = true; simp [Value.isStrOf]) (strsAt_are l (t + 1))
/-- a written text; a written thing: a text, or a tuple of texts -/
structure Lit where
  z : Str
  k : Nat
  p : Pos
def Lit.e (l : Lit) : Expr := .Constant (.str l.z) l.k l.p
def tupObj (vs : List Value) : Obj := { cls := .type "tuple", data := .seq vs.toArray }
inductive It where
  | lit (l : Lit)
  | tup (ls : List Lit) (k : Nat) (p : Pos)
def It.e : It → Expr
  | .lit l => l.e
  | .tup ls k p => .Tuple (ls.map Lit.e) k p
/-- the state behind a tuple of texts -/
def flatRun (ls : List Lit) (s : Shared) : Shared := { s with heap := s.heap.push (tupObj (strsAt (ls.map (·.z)) s.toks)), toks := s.toks + ls.length }
def It.run : It → Shared → Value × Shared
  | .lit l, s => (.str l.z s.toks, { s with toks := s.toks + 1 })
  | .tup ls _ _, s => (.ref s.heap.objs.size, flatRun ls s)
def runs : List It → Shared → List Value × Shared
  | [], s => ([], s)
  | i :: l, s => ((i.run s).1 :: (runs l (i.run s).2).1, (runs l (i.run s).2).2)
def tupRun (l : List It) (s : Shared) : Shared := { (runs l s).2 with heap := (runs l s).2.heap.push (tupObj (runs l s).1) }
def tupAt (l : List It) (s : Shared) : Addr := (runs l s).2.heap.objs.size
theorem runs_length : ∀ (l : List It) (s : Shared), (runs l s).1.length = l.length
  | [], _ => rfl
  | i :: l, s => congrArg (· + 1) (runs_length l _)

theorem flat_items (pos : Pos) : ∀ (ls : List Lit) (s : Shared) (Q : List Value → Shared → Prop), Q (strsAt (ls.map (·.z)) s.toks) { s with toks := s.toks + ls.length } →
    wpAny (model prog w) A (spliced (backTo pos (starEach (ls.map Lit.e) env))) Q E s
  | [], s, Q, h => wpAny_items_nil h
  | l :: ls, s, Q, h => by
    refine wpAny_items_cons (e := l.e) (wpAny_Constant_str ?_)
    refine flat_items pos ls { s with toks := s.toks + 1 } _ ?_
    show Q (strsAt ((l :: ls).map (·.z)) s.toks) { s with toks := s.toks + 1 + ls.length }
    have e : s.toks + 1 + ls.length = s.toks + (l :: ls).length := by rw [List.length_cons]; omega
    rw [e]; exact h
theorem flat_tuple {ls : List Lit} {k : Nat} {pos : Pos} {s : Shared} {Q : Value → Shared → Prop} (hl : ls.length ≤ sizeLine) (h : Q (.ref s.heap.objs.size) (flatRun ls s)) :
    wpAny (model prog w) A (eval (.Tuple (ls.map Lit.e) k pos) env) Q E s :=
  wpAny_Tuple (flat_items pos ls s _ ⟨by rw [strsAt_length, List.length_map]; exact hl, h⟩)
def It.fits : It → Prop
  | .lit _ => True
  | .tup ls _ _ => ls.length ≤ sizeLine
theorem it_run {i : It} {s : Shared} {Q : Value → Shared → Prop} (hf : i.fits) (h : Q (i.run s).1 (i.run s).2) : wpAny (model prog w) A (eval i.e env) Q E s := by
  cases i with
  | lit l => exact wpAny_Constant_str h
  | tup ls k p => exact flat_tuple hf h
theorem it_star (i : It) (rest : List Expr) : starEach (i.e :: rest) env = (false, eval i.e env) :: starEach rest env := by cases i <;> rfl
theorem items (pos : Pos) : ∀ (l : List It) (s : Shared) (Q : List Value → Shared → Prop), (∀ i ∈ l, i.fits) → Q (runs l s).1 (runs l s).2 →
    wpAny (model prog w) A (spliced (backTo pos (starEach (l.map It.e) env))) Q E s
  | [], s, Q, _, h => wpAny_items_nil h
  | i :: l, s, Q, hf, h => by
    refine wpAny_items_cons (e := i.e) (it_run (hf i (List.mem_cons_self ..)) ?_) (it_star i _)
    exact items pos l (i.run s).2 _ (fun j hj => hf j (List.mem_cons_of_mem _ hj)) h
theorem tuple_run {l : List It} {k : Nat} {pos : Pos} {s : Shared} {Q : Value → Shared → Prop} (hf : ∀ i ∈ l, i.fits) (hl : l.length ≤ sizeLine) (h : Q (.ref (tupAt l s)) (tupRun l s)) :
    wpAny (model prog w) A (eval (.Tuple (l.map It.e) k pos) env) Q E s :=
  wpAny_Tuple (items pos l s _ hf ⟨by rw [runs_length]; exact hl, h⟩)

/-! ## a dict with such keys, to the very state -/
abbrev kd (prog : Program) (w : World) : HeapKind prog w (List Str) := tupleKind (strKind prog w)
/-- the pair's entry -/
def entry (prog : Program) (w : World) (zs : List Str) (a : Addr) (v : Value) : DictEntry := ⟨(kd prog w).hash zs, .ref a, v⟩
def putNew (prog : Program) (w : World) (d : Addr) (zs : List Str) (a : Addr) (v : Value) (h : Heap) : Heap := h.update d (Obj.mapDictKeys fun es => es.push (entry prog w zs a v))
abbrev Ks := List (List Str × Addr × Value)
theorem put_dict {h : Heap} {d a : Addr} {zs : List Str} {v : Value} {xs : Ks} (hm : h.DictOfH (kd prog w) d xs) (hk : (kd prog w).is h zs a) (hn : zs ∉ xs.map (·.1)) : (putNew prog w d zs a v h).DictOfH (kd prog w) d (xs ++ [(zs, a, v)]) := by
  obtain ⟨o, es, ep, ho, hc, hd, he, his, hnd⟩ := hm
  refine ⟨_, _, ep + 1, Heap.get?_update_self _ ho (Obj.isFreed_of_dict (Obj.data_mapDictKeys hd _)), hc.mapDictKeys _, Obj.data_mapDictKeys hd _, ?_, ?_, ?_⟩
  · simp [he, entryOfKey, entry]
  · intro x hx
    rcases List.mem_append.mp hx with hx | hx
    · exact (kd prog w).keeps (his x hx) ho hd (Heap.SameBut.update ..)
    · simp only [List.mem_singleton] at hx
      subst hx
      exact (kd prog w).keeps hk ho hd (Heap.SameBut.update ..)
  · rw [List.map_append, List.nodup_append]
    refine ⟨hnd, by simp, ?_⟩
    intro x hx y hy
    simp only [List.map_cons, List.map_nil, List.mem_singleton] at hy
    subst hy
    exact fun e => hn (e ▸ hx)
theorem find_new {h : Heap} {d a : Addr} {zs : List Str} {xs : Ks} {s : Shared} {Q : Option Nat → Shared → Prop} (hu : A.units < cLine) (e : s.heap = h) (hm : h.DictOfH (kd prog w) d xs) (hk : (kd prog w).is h zs a) (hn : zs ∉ xs.map (·.1)) (hQ : Q none s) :
    wpAny (model prog w) A (dictFind d (.ref a) ((kd prog w).hash zs)) Q E s := by
  subst e
  obtain ⟨o, es, ep, ho, hc, hd, he, his, hnd⟩ := hm
  refine wpAny_dictFind_heap (knd := kd prog w) hu hk ho hd he his hnd (fun _ => hQ) ?_
  intro j p hj
  exact absurd (List.mem_map.mpr ⟨_, List.mem_of_getElem? hj, rfl⟩) hn
theorem set_new {d a : Addr} {zs : List Str} {v : Value} {xs : Ks} {s : Shared} {Q : Unit → Shared → Prop} (hu : A.units < cLine) (hm : s.heap.DictOfH (kd prog w) d xs) (hk : (kd prog w).is s.heap zs a) (hn : zs ∉ xs.map (·.1)) (hz : xs.length ≤ sizeLine)
    (hQ : Q () { s with heap := putNew prog w d zs a v s.heap, toks := s.toks + (zs.length + 1) }) : wpAny (model prog w) A (dictSet d (.ref a) v) Q E s := by
  unfold dictSet
  refine wpAny_holding (wpAny_bind ((kd prog w).pyHash hu hk ?_))
  unfold dictSetHashed
  refine wpAny_holding (wpAny_bind (find_new (xs := xs) hu rfl hm hk hn ?_))
  obtain ⟨o, es, ep, ho, hc, hd, he, his, hnd⟩ := hm
  exact wpAny_bind (wpAny_rule (wpAny_updateDictKeys (hz := by have e := size_of_entries he; omega) (s := { s with toks := s.toks + (kd prog w).draws zs }) ho hd hQ))
end
end HdX
end
section
set_option Elab.async false
set_option linter.all false
set_option maxRecDepth 100000
namespace HdX
open PySem PySem.Calls PyProof.Rows
section
variable {prog : Program} {w : World} {A : Around} {E : Value → Shared → Prop} {env : Env}
theorem dict_kept {h h' : Heap} {d : Addr} {xs : Ks} (hm : h.DictOfH (kd prog w) d xs) (k : ∀ b o, h.get? b = some o → h'.get? b = some o) : h'.DictOfH (kd prog w) d xs := by
  obtain ⟨o, es, ep, ho, hc, hd, he, his, hnd⟩ := hm
  refine ⟨o, es, ep, k _ _ ho, hc, hd, he, fun x hx => ?_, hnd⟩
  obtain ⟨o', its, n, h1, h2, h3, h4⟩ := his x hx
  exact ⟨o', its, n, k _ _ h1, h2, h3, h4⟩
theorem flat_keep (ls : List Lit) (s : Shared) : ∀ b o, s.heap.get? b = some o → (flatRun ls s).heap.get? b = some o := fun b o e => Heap.get?_push_of_some _ e
theorem it_keep (i : It) (s : Shared) : ∀ b o, s.heap.get? b = some o → (i.run s).2.heap.get? b = some o := fun b o e => by
  cases i with
  | lit l => exact e
  | tup ls k p => exact flat_keep ls s b o e
theorem runs_keep : ∀ (l : List It) (s : Shared), ∀ b o, s.heap.get? b = some o → (runs l s).2.heap.get? b = some o
  | [], _, _, _, e => e
  | i :: l, s, b, o, e => runs_keep l (i.run s).2 b o (it_keep i s b o e)
theorem tup_keep (l : List It) (s : Shared) : ∀ b o, s.heap.get? b = some o → (tupRun l s).heap.get? b = some o := fun b o e => Heap.get?_push_of_some _ (runs_keep l s b o e)
theorem flat_key (ls : List Lit) (s : Shared) : (kd prog w).is (flatRun ls s).heap (ls.map (·.z)) s.heap.objs.size :=
  ⟨tupObj (strsAt (ls.map (·.z)) s.toks), (strsAt (ls.map (·.z)) s.toks).toArray, _, by show (s.heap.push _).get? _ = _; heap_get, rfl, rfl, by simpa using strsAt_are (prog := prog) (w := w) (ls.map (·.z)) s.toks⟩

/-- one pair as it is written -/
structure PL where
  kl : List Lit
  kk : Nat
  kp : Pos
  vl : List It
  vk : Nat
  vp : Pos
def PL.ke (x : PL) : Expr := .Tuple (x.kl.map Lit.e) x.kk x.kp
def PL.ve (x : PL) : Expr := .Tuple (x.vl.map It.e) x.vk x.vp
def PL.zs (x : PL) : List Str := x.kl.map (·.z)
def PL.fits (x : PL) : Prop := x.kl.length ≤ sizeLine ∧ (∀ i ∈ x.vl, i.fits) ∧ x.vl.length ≤ sizeLine
def PL.sems (env : Env) (pos : Pos) (x : PL) : Sem Value × Sem Value := (eval x.ke env, do let v ← eval x.ve env; standAt pos; pure v)
/-- the state behind key and value -/
def PL.run (x : PL) (s : Shared) : Shared := tupRun x.vl (flatRun x.kl s)
def PL.key (x : PL) (s : Shared) : Addr := s.heap.objs.size
def PL.val (x : PL) (s : Shared) : Value := .ref (tupAt x.vl (flatRun x.kl s))
theorem PL.keep (x : PL) (s : Shared) : ∀ b o, s.heap.get? b = some o → (x.run s).heap.get? b = some o := fun b o e => tup_keep _ _ b o (flat_keep _ _ b o e)
theorem PL.is (x : PL) (s : Shared) : (kd prog w).is (x.run s).heap x.zs (x.key s) := by
  obtain ⟨o', its, n, h1, h2, h3, h4⟩ := flat_key (prog := prog) (w := w) x.kl s
  exact ⟨o', its, n, tup_keep _ _ _ _ h1, h2, h3, h4⟩
theorem PL.key_run {x : PL} {pos : Pos} {s : Shared} {Q : Value → Shared → Prop} (hf : x.fits) (h : Q (.ref (x.key s)) (flatRun x.kl s)) :
    wpAny (model prog w) A (x.sems env pos).1 Q E s := flat_tuple (k := x.kk) (pos := x.kp) hf.1 h
theorem PL.val_run {x : PL} {pos : Pos} {s : Shared} {Q : Value → Shared → Prop} (hf : x.fits) (h : Q (x.val s) (x.run s)) :
    wpAny (model prog w) A (x.sems env pos).2 Q E (flatRun x.kl s) :=
  wpAny_bind (tuple_run (k := x.vk) (pos := x.vp) hf.2.1 hf.2.2 (wpAny_bind (wpAny_standAt (wpAny_pure h))))

/-! ## the long run -/
def stepL (prog : Program) (w : World) (d : Addr) (x : PL) (s : Shared) : Shared := { x.run s with heap := putNew prog w d x.zs (x.key s) (x.val s) (x.run s).heap, toks := (x.run s).toks + (x.zs.length + 1) }
def longS (prog : Program) (w : World) (d : Addr) : List PL → Shared → Shared
  | [], s => s
  | x :: l, s => longS prog w d l (stepL prog w d x s)
def longK (prog : Program) (w : World) (d : Addr) : List PL → Shared → Ks
  | [], _ => []
  | x :: l, s => (x.zs, x.key s, x.val s) :: longK prog w d l (stepL prog w d x s)
theorem longK_keys (d : Addr) : ∀ (l : List PL) (s : Shared), (longK prog w d l s).map (·.1) = l.map PL.zs
  | [], _ => rfl
  | x :: l, s => congrArg (x.zs :: ·) (longK_keys d l _)
theorem longK_length (d : Addr) (l : List PL) (s : Shared) : (longK prog w d l s).length = l.length := by
  have := congrArg List.length (longK_keys (prog := prog) (w := w) d l s)
  simpa using this
theorem long_run (hu : A.units < cLine) {d : Addr} {pos : Pos} : ∀ (l : List PL) (xs : Ks) (s : Shared) (Q : PUnit → Shared → Prop), (∀ x ∈ l, x.fits) → s.heap.DictOfH (kd prog w) d xs → (xs.map (·.1) ++ l.map PL.zs).Nodup → xs.length + l.length ≤ sizeLine →
    ((longS prog w d l s).heap.DictOfH (kd prog w) d (xs ++ longK prog w d l s) → Q PUnit.unit (longS prog w d l s)) →
    wpAny (model prog w) A (forIn (l.map (PL.sems env pos)) PUnit.unit fun (x : Sem Value × Sem Value) (_ : PUnit) => (do
      let kv ← x.1
      let vv ← holding [kv] x.2
      holding [kv, vv] (dictSet d kv vv)
      pure (ForInStep.yield PUnit.unit) : Sem (ForInStep PUnit))) Q E s
  | [], xs, s, Q, _, hm, _, _, hQ => by
    rw [List.map_nil, List.forIn_nil]
    exact wpAny_pure (hQ (by simpa [longS, longK] using hm))
  | x :: l, xs, s, Q, hf, hm, hn, hz, hQ => by
    rw [List.map_cons, List.forIn_cons]
    have hn1 : x.zs ∉ xs.map (·.1) := by
      intro hx
      rw [List.nodup_append] at hn
      exact hn.2.2 _ hx _ (by simp) rfl
    have hm2 := dict_kept hm (x.keep s)
    refine wpAny_bind (wpAny_bind (PL.key_run (hf x (by simp)) ?_))
    refine wpAny_bind (wpAny_holding (PL.val_run (hf x (by simp)) ?_))
    refine wpAny_bind (wpAny_holding (set_new (zs := x.zs) (xs := xs) hu hm2 (x.is s) hn1 (by rw [List.length_cons] at hz; omega) (wpAny_pure ?_)))
    refine long_run hu l (xs ++ [(x.zs, x.key s, x.val s)]) (stepL prog w d x s) _ (fun y hy => hf y (by simp [hy])) (put_dict hm2 (x.is s) hn1) ?_ ?_ ?_
    · rw [List.map_append, List.append_assoc]; simpa using hn
    · rw [List.length_append]; simp only [List.length_cons, List.length_nil] at hz ⊢; omega
    · intro h
      refine hQ ?_
      rw [List.append_assoc] at h
      exact h

/-! ## the short run -/
def evS : List PL → Shared → Shared
  | [], s => s
  | x :: l, s => evS l (x.run s)
def evK : List PL → Shared → Ks
  | [], _ => []
  | x :: l, s => (x.zs, x.key s, x.val s) :: evK l (x.run s)
theorem evK_keys : ∀ (l : List PL) (s : Shared), (evK l s).map (·.1) = l.map PL.zs
  | [], _ => rfl
  | x :: l, s => congrArg (x.zs :: ·) (evK_keys l _)
theorem evS_keep : ∀ (l : List PL) (s : Shared), ∀ b o, s.heap.get? b = some o → (evS l s).heap.get? b = some o
  | [], _, _, _, e => e
  | x :: l, s, b, o, e => evS_keep l _ b o (x.keep s b o e)
theorem evK_is : ∀ (l : List PL) (s : Shared), ∀ k ∈ evK l s, (kd prog w).is (evS l s).heap k.1 k.2.1
  | [], _, _, h => nomatch h
  | x :: l, s, k, h => by
    rcases List.mem_cons.mp h with rfl | h
    · obtain ⟨o', its, n, h1, h2, h3, h4⟩ := x.is (prog := prog) (w := w) s
      exact ⟨o', its, n, evS_keep l _ _ _ h1, h2, h3, h4⟩
    · exact evK_is l _ k h
def vvs (ks : Ks) : List (Value × Value) := ks.map fun k => (.ref k.2.1, k.2.2)
theorem ev_run {pos : Pos} : ∀ (l : List PL) (s : Shared) (Q : List (Value × Value) → Shared → Prop), (∀ x ∈ l, x.fits) → Q (vvs (evK l s)) (evS l s) →
    wpAny (model prog w) A (evalPairs (l.map (PL.sems env pos))) Q E s
  | [], s, Q, _, h => wpAny_pure h
  | x :: l, s, Q, hf, h => by
    show wpAny (model prog w) A (do
      let kv ← (x.sems env pos).1
      let vv ← holding [kv] (x.sems env pos).2
      return (kv, vv) :: (← holding [kv, vv] (evalPairs (l.map (PL.sems env pos))))) Q E s
    refine wpAny_bind (PL.key_run (hf x (by simp)) ?_)
    refine wpAny_bind (wpAny_holding (PL.val_run (hf x (by simp)) ?_))
    refine wpAny_bind (wpAny_holding (ev_run l (x.run s) _ (fun y hy => hf y (by simp [hy])) (wpAny_pure ?_)))
    exact h
/-- entries put one behind another -/
def putS (prog : Program) (w : World) (d : Addr) : Ks → Shared → Shared
  | [], s => s
  | k :: l, s => putS prog w d l { s with heap := putNew prog w d k.1 k.2.1 k.2.2 s.heap, toks := s.toks + (k.1.length + 1) }
theorem put_run (hu : A.units < cLine) {d : Addr} : ∀ (ks xs : Ks) (s : Shared) (Q : PUnit → Shared → Prop), s.heap.DictOfH (kd prog w) d xs → (∀ k ∈ ks, (kd prog w).is s.heap k.1 k.2.1) → (xs.map (·.1) ++ ks.map (·.1)).Nodup → xs.length + ks.length ≤ sizeLine →
    ((putS prog w d ks s).heap.DictOfH (kd prog w) d (xs ++ ks) → Heap.SameBut d s.heap (putS prog w d ks s).heap → Q PUnit.unit (putS prog w d ks s)) →
    wpAny (model prog w) A (forIn (vvs ks) PUnit.unit fun (x : Value × Value) (_ : PUnit) => (do dictSet d x.1 x.2; pure (ForInStep.yield PUnit.unit) : Sem (ForInStep PUnit))) Q E s
  | [], xs, s, Q, hm, _, _, _, hQ => by
    rw [show vvs [] = [] from rfl, List.forIn_nil]
    exact wpAny_pure (hQ (by simpa [putS] using hm) (Heap.SameBut.refl _ _))
  | k :: l, xs, s, Q, hm, hk, hn, hz, hQ => by
    rw [show vvs (k :: l) = (.ref k.2.1, k.2.2) :: vvs l from rfl, List.forIn_cons]
    have hn1 : k.1 ∉ xs.map (·.1) := by
      intro hx
      rw [List.nodup_append] at hn
      exact hn.2.2 _ hx _ (by simp) rfl
    obtain ⟨o, es, ep, ho, hc, hd, he, his, hnd⟩ := id hm
    refine wpAny_bind (wpAny_bind (set_new (zs := k.1) (xs := xs) hu hm (hk k (by simp)) hn1 (by rw [List.length_cons] at hz; omega) (wpAny_pure ?_)))
    refine put_run hu l (xs ++ [(k.1, k.2.1, k.2.2)]) _ _ (put_dict hm (hk k (by simp)) hn1) (fun q hq => (kd prog w).keeps (hk q (by simp [hq])) ho hd (Heap.SameBut.update ..)) ?_ ?_ ?_
    · rw [List.map_append, List.append_assoc]; simpa using hn
    · rw [List.length_append]; simp only [List.length_cons, List.length_nil] at hz ⊢; omega
    · intro h hs
      refine hQ ?_ (Heap.SameBut.trans (Heap.SameBut.update ..) hs)
      rw [List.append_assoc] at h
      exact h
end
end HdX
end
section
set_option Elab.async false
set_option linter.all false
set_option maxRecDepth 100000
namespace HdX
open PySem PySem.Calls PyProof.Rows
section
variable {prog : Program} {w : World} {A : Around} {E : Value → Shared → Prop} {env : Env} {s : Shared}
def pairUp (p : Sem Value × Sem Value) : Option (Sem Value) × Sem Value := (some p.1, p.2)
abbrev LS := Option Addr × List (Sem Value × Sem Value)
theorem gather_some (f : (Option (Sem Value) × Sem Value) → LS → Sem (ForInStep LS)) (m : Option Addr)
    (hf : ∀ (p : Sem Value × Sem Value) (run : List (Sem Value × Sem Value)), run.length + 1 < 17 → f (pairUp p) (m, run) = pure (.yield (m, run ++ [p]))) :
    ∀ (l run : List (Sem Value × Sem Value)), run.length + l.length < 17 → forIn (l.map pairUp) ((m, run) : LS) f = pure (m, run ++ l)
  | [], run, _ => by simp
  | p :: l, run, h => by
    rw [List.map_cons, List.forIn_cons, hf p run (by simp at h; omega), pure_bind]
    have q := gather_some f m hf l (run ++ [p]) (by simp at h ⊢; omega)
    simpa using q
theorem gather_full (f : (Option (Sem Value) × Sem Value) → LS → Sem (ForInStep LS))
    (hf : ∀ (p : Sem Value × Sem Value) (run : List (Sem Value × Sem Value)), run.length + 1 < 17 → f (pairUp p) (none, run) = pure (.yield (none, run ++ [p])))
    (hg : ∀ (p : Sem Value × Sem Value) (run : List (Sem Value × Sem Value)) (s : Shared) (Q : ForInStep LS → Shared → Prop), run.length + 1 = 17 → wpAny (model prog w) A (subDict (run ++ [p])) (fun d s' => Q (.yield (some d, [])) s') E s →
      wpAny (model prog w) A (f (pairUp p) (none, run)) Q E s) (rest : List (Sem Value × Sem Value)) :
    ∀ (l run : List (Sem Value × Sem Value)) (s : Shared) (Q : LS → Shared → Prop), 0 < l.length → run.length + l.length = 17 →
      wpAny (model prog w) A (subDict (run ++ l)) (fun d s' => wpAny (model prog w) A (forIn (rest.map pairUp) ((some d, []) : LS) f) Q E s') E s →
      wpAny (model prog w) A (forIn ((l ++ rest).map pairUp) ((none, run) : LS) f) Q E s
  | [], _, _, _, h0, _, _ => absurd h0 (by simp)
  | [p], run, s, Q, _, h, hw => by
    rw [List.cons_append, List.nil_append, List.map_cons, List.forIn_cons]
    exact wpAny_bind (hg p run s _ (by simpa using h) hw)
  | p :: q :: l, run, s, Q, _, h, hw => by
    rw [List.cons_append, List.map_cons, List.forIn_cons, hf p run (by simp at h; omega), pure_bind]
    refine gather_full f hf hg rest (q :: l) (run ++ [p]) s Q (by simp) (by simp at h ⊢; omega) ?_
    rw [List.append_assoc]; exact hw
theorem wp_disp {l1 l2 : List (Sem Value × Sem Value)} {Q : Value → Shared → Prop} (h1 : l1.length = 17) (h2 : 0 < l2.length) (h3 : l2.length < 17)
    (h : wpAny (model prog w) A (subDict l1) (fun d s1 => wpAny (model prog w) A (subDict l2) (fun sub s2 => wpAny (model prog w) A (mergeMapping d (.ref sub) false) (fun _ s3 => Q (.ref d) s3) (fun _ _ => False) s2) E s1) E s) :
    wpAny (model prog w) A (dictDisplay ((l1 ++ l2).map pairUp)) Q E s := by
  unfold dictDisplay
  dsimp only
  refine wpAny_bind (gather_full _ (fun p run h => ?_) (fun p run s Q h hw => ?_) l2 l1 [] s _ (by omega) (by simpa using h1) ?_)
  · have hne : ((run ++ [(p.1, p.2)]).length == 17) = false := by simp; omega
    simp only [pairUp, hne, Bool.false_eq_true, if_false]
  · have hne : ((run ++ [(p.1, p.2)]).length == 17) = true := by simp; omega
    have he : (run ++ [(p.1, p.2)]).isEmpty = false := by simp
    simp only [pairUp, hne, if_true, he, Bool.false_eq_true, if_false]
    exact wpAny_bind (wpAny_bind (wpAny_mono hw (fun d s' hq => wpAny_pure (wpAny_pure hq)) fun _ _ e => e))
  · rw [List.nil_append]
    refine wpAny_mono h (fun d s1 hs => ?_) fun _ _ e => e
    rw [gather_some _ (some d) (fun p run h => by
      have hne : ((run ++ [(p.1, p.2)]).length == 17) = false := by simp; omega
      simp only [pairUp, hne, Bool.false_eq_true, if_false]) l2 [] (by simpa using h3)]
    refine wpAny_pure ?_
    have he : l2.isEmpty = false := by cases l2 with | nil => simp at h2 | cons a b => rfl
    simp only [List.nil_append, he, Bool.false_eq_true, if_false]
    refine wpAny_bind (wpAny_bind (wpAny_holding (wpAny_mono hs (fun sub s2 hm => ?_) fun _ _ e => e)))
    refine wpAny_bind (wpAny_onRaise (wpAny_holding (wpAny_mono hm (fun _ s3 hq => wpAny_pure (wpAny_pure hq)) fun _ _ e => e.elim)))
end
end HdX
end
section
set_option Elab.async false
set_option linter.all false
set_option maxRecDepth 100000
namespace HdX
open PySem PySem.Calls PyProof.Rows
section
variable {prog : Program} {w : World} {A : Around} {E : Value → Shared → Prop} {env : Env} {s : Shared}
def dict0 : Obj := { cls := .type "dict", data := .dict #[] }
/-- the state with a new empty dict -/
def newD (s : Shared) : Shared := { s with heap := s.heap.push dict0 }
theorem newD_dict (s : Shared) : (newD s).heap.DictOfH (kd prog w) s.heap.objs.size [] :=
  ⟨dict0, #[], 0, by show (s.heap.push _).get? _ = _; heap_get, ⟨rfl, rfl, rfl⟩, rfl, rfl, fun _ h => (nomatch h), List.nodup_nil⟩
theorem sub_long (hu : A.units < cLine) {pos : Pos} {l : List PL} {Q : Addr → Shared → Prop} (hl : 15 < l.length) (hf : ∀ x ∈ l, x.fits) (hn : (l.map PL.zs).Nodup) (hz : l.length ≤ sizeLine)
    (h : (longS prog w s.heap.objs.size l (newD s)).heap.DictOfH (kd prog w) s.heap.objs.size (longK prog w s.heap.objs.size l (newD s)) → Q s.heap.objs.size (longS prog w s.heap.objs.size l (newD s))) :
    wpAny (model prog w) A (subDict (l.map (PL.sems env pos))) Q E s := by
  unfold subDict
  refine wpAny_bind (wpAny_alloc (wpAny_bind (wpAny_holding ?_)))
  rw [if_neg (by rw [List.length_map]; omega)]
  refine wpAny_bind (wpAny_rule (wpAny_bind ?_))
  exact long_run hu l [] (newD s) _ hf (newD_dict s) (by simpa using hn) (by simpa using hz) fun hm => wpAny_pure (wpAny_pure (h hm))
def shortS (prog : Program) (w : World) (l : List PL) (s : Shared) : Shared := putS prog w s.heap.objs.size (evK l (newD s)) (evS l (newD s))
theorem sub_short (hu : A.units < cLine) {pos : Pos} {l : List PL} {Q : Addr → Shared → Prop} (hl : l.length ≤ 15) (hf : ∀ x ∈ l, x.fits) (hn : (l.map PL.zs).Nodup)
    (h : (shortS prog w l s).heap.DictOfH (kd prog w) s.heap.objs.size (evK l (newD s)) → Heap.SameBut s.heap.objs.size (evS l (newD s)).heap (shortS prog w l s).heap → Q s.heap.objs.size (shortS prog w l s)) :
    wpAny (model prog w) A (subDict (l.map (PL.sems env pos))) Q E s := by
  unfold subDict
  refine wpAny_bind (wpAny_alloc (wpAny_bind (wpAny_holding ?_)))
  rw [if_pos (by rw [List.length_map]; exact hl)]
  refine wpAny_bind (ev_run l (newD s) _ hf ?_)
  refine wpAny_holding (wpAny_bind ?_)
  have hlen : (evK l (newD s)).length = l.length := by
    have := congrArg List.length (evK_keys l (newD s)); simpa using this
  refine put_run hu (evK l (newD s)) [] (evS l (newD s)) _ (dict_kept (newD_dict s) (evS_keep l (newD s))) (evK_is l (newD s)) ?_ ?_ fun hm hs => wpAny_pure (wpAny_pure (h (by rw [List.nil_append] at hm; exact hm) hs))
  · rw [List.map_nil, List.nil_append, evK_keys]; exact hn
  · rw [hlen, List.length_nil, sizeLine_eq]; omega

/-- entries of another dict put behind one's own -/
def mergeS (prog : Program) (w : World) (d : Addr) : Ks → Shared → Shared
  | [], s => s
  | k :: l, s => mergeS prog w d l { s with heap := putNew prog w d k.1 k.2.1 k.2.2 s.heap }
theorem sub_stays {d a : Addr} {o : Obj} {h : Heap} {k : List Str} {b : Addr} {v : Value} (hda : d ≠ a) (ho : h.get? a = some o) : (putNew prog w d k b v h).get? a = some o :=
  (Heap.get?_update_ne h a d _ (Ne.symm hda)).trans ho
theorem merge_loop (hu : A.units < cLine) {d a : Addr} (hda : d ≠ a) {oa : Obj} {ea : Array DictEntry} {pa : Nat} (hd : oa.data = .dict ea pa) {all : Ks} (hea : ea.toList = all.map (entryOfKey (kd prog w)))
    (f : Nat → PUnit → Sem (ForInStep PUnit))
    (hf : ∀ (i : Nat) (k : List Str × Addr × Value) (s : Shared) (Q : ForInStep PUnit → Shared → Prop), s.heap.get? a = some oa → ea[i]? = some (entry prog w k.1 k.2.1 k.2.2) →
      wpAny (model prog w) A (dictPut d ((kd prog w).hash k.1) (.ref k.2.1) k.2.2) (fun _ s' => s'.heap.get? a = some oa ∧ Q (.yield PUnit.unit) s') E s → wpAny (model prog w) A (f i PUnit.unit) Q E s) :
    ∀ (ks xs : Ks) (i : Nat) (s : Shared) (Q : PUnit → Shared → Prop), ks = all.drop i → s.heap.get? a = some oa → s.heap.DictOfH (kd prog w) d xs → (∀ k ∈ ks, (kd prog w).is s.heap k.1 k.2.1) → (xs.map (·.1) ++ ks.map (·.1)).Nodup → xs.length + ks.length ≤ sizeLine →
    ((mergeS prog w d ks s).heap.DictOfH (kd prog w) d (xs ++ ks) → Q PUnit.unit (mergeS prog w d ks s)) →
    wpAny (model prog w) A (forIn (List.range' i ks.length) PUnit.unit f) Q E s
  | [], xs, i, s, Q, _, _, hm, _, _, _, hQ => by
    show wpAny _ _ (forIn [] _ _) _ _ _
    rw [List.forIn_nil]
    exact wpAny_pure (hQ (by simpa [mergeS] using hm))
  | k :: l, xs, i, s, Q, hks, hoa, hm, hk, hn, hz, hQ => by
    rw [List.length_cons, List.range'_succ, List.forIn_cons]
    have hn1 : k.1 ∉ xs.map (·.1) := by
      intro hx
      rw [List.nodup_append] at hn
      exact hn.2.2 _ hx _ (by simp) rfl
    have hik : all[i]? = some k := by
      have : (all.drop i)[0]? = some k := by rw [← hks]; rfl
      simpa using this
    have hei : ea[i]? = some (entry prog w k.1 k.2.1 k.2.2) := by
      rw [← Array.getElem?_toList, hea, List.getElem?_map, hik]; rfl
    obtain ⟨o, es, ep, ho, hc, hdd, he, his, hnd⟩ := id hm
    refine wpAny_bind (hf i k s _ hoa hei ?_)
    unfold dictPut
    refine wpAny_bind (find_new (zs := k.1) (a := k.2.1) (xs := xs) hu rfl hm (hk k (by simp)) hn1 ?_)
    refine wpAny_updateDictKeys (hz := by have e := size_of_entries he; simp only [List.length_cons] at hz; omega) ho hdd ?_
    refine ⟨sub_stays (prog := prog) (w := w) (k := k.1) (b := k.2.1) (v := k.2.2) hda hoa, ?_⟩
    refine merge_loop hu hda hd hea f hf l (xs ++ [(k.1, k.2.1, k.2.2)]) (i + 1) { s with heap := putNew prog w d k.1 k.2.1 k.2.2 s.heap } _ ?_ (sub_stays hda hoa) (put_dict hm (hk k (by simp)) hn1) (fun q hq => (kd prog w).keeps (hk q (by simp [hq])) ho hdd (Heap.SameBut.update ..)) ?_ ?_ ?_
    · have : (all.drop i).drop 1 = l := by rw [← hks]; rfl
      rw [List.drop_drop] at this; exact this.symm
    · rw [List.map_append, List.append_assoc]; simpa using hn
    · rw [List.length_append]; simp only [List.length_cons, List.length_nil] at hz ⊢; omega
    · intro h
      refine hQ ?_
      rw [List.append_assoc] at h
      exact h
theorem merge_run (hu : A.units < cLine) {d a : Addr} (hda : d ≠ a) (has : (a == sysModules) = false) {xs ks : Ks} {Q : Unit → Shared → Prop} (hx : xs ≠ []) (hm : s.heap.DictOfH (kd prog w) d xs) (ha : s.heap.DictOfH (kd prog w) a ks) (hn : (xs.map (·.1) ++ ks.map (·.1)).Nodup) (hz : xs.length + ks.length ≤ sizeLine)
    (hQ : (mergeS prog w d ks s).heap.DictOfH (kd prog w) d (xs ++ ks) → Q () (mergeS prog w d ks s)) : wpAny (model prog w) A (mergeMapping d (.ref a) false) Q E s := by
  obtain ⟨oa, ea, pa, hoa, hca, hda', hea, hisa, hnda⟩ := id ha
  have hta : s.TypeIs (.ref a) "dict" := ⟨oa, hoa, hca.1⟩
  obtain ⟨o, es, ep, ho, hc, hdd, he, his, hnd⟩ := id hm
  have hemp : es.isEmpty = false := by
    cases q : es.isEmpty with
    | false => rfl
    | true =>
      have h0 : es = #[] := Array.isEmpty_iff.mp q
      rw [h0] at he
      have : xs = [] := by cases xs with | nil => rfl | cons x r => simp at he
      exact absurd this hx
  have hsz : ea.size = ks.length := by rw [← Array.length_toList, hea, List.length_map]
  unfold mergeMapping
  refine wpAny_bind (wpAny_isInstance hta isSubtype_dict_dict ?_)
  simp only [if_true]
  refine wpAny_bind (wpAny_specialOf hta F.slot_dict_iter.lookup (wpAny_bind (wpAny_pure ?_)))
  simp only [beq_self_eq_true]
  rw [has]
  simp only [Bool.false_eq_true, if_false]
  refine wpAny_bind (wpAny_dictEntries ho hdd ?_)
  rw [hemp]
  simp only [Bool.false_eq_true, if_false]
  refine wpAny_bind (wpAny_dictEntries hoa hda' ?_)
  refine wpAny_bind (wpAny_dictEpoch hoa hda' ?_)
  rw [hsz, List.range_eq_range']
  refine wpAny_bind (merge_loop hu hda hda' hea _ ?_ ks xs 0 s _ rfl hoa hm hisa hn hz fun h => wpAny_pure (hQ h))
  intro i k s1 Q1 hoa1 hei hput
  refine wpAny_bind (wpAny_dictEntries hoa1 hda' ?_)
  rw [hei]
  dsimp only [entry]
  refine wpAny_bind (wpAny_holding (wpAny_mono hput (fun _ s2 h2 => ?_) fun _ _ e => e))
  refine wpAny_bind (wpAny_dictEpoch h2.1 hda' ?_)
  rw [if_neg (by simp)]
  exact wpAny_pure h2.2
end
end HdX
end
section
set_option Elab.async false
set_option linter.all false
set_option maxRecDepth 100000
namespace HdX
open PySem PySem.Calls PyProof.Rows
section
variable {prog : Program} {w : World} {A : Around} {E : Value → Shared → Prop} {env : Env} {s : Shared}
theorem dict_else {h h' : Heap} {d a : Addr} {xs ks : Ks} (hda : d ≠ a) (ha : h.DictOfH (kd prog w) a ks) (hm : h.DictOfH (kd prog w) d xs) (hs : Heap.SameBut a h h') : h'.DictOfH (kd prog w) d xs := by
  obtain ⟨oa, ea, pa, hoa, hca, hda', hea, hisa, hnda⟩ := ha
  obtain ⟨o, es, ep, ho, hc, hd, he, his, hnd⟩ := hm
  exact ⟨o, es, ep, (hs.2 d hda).trans ho, hc, hd, he, fun x hx => (kd prog w).keeps (his x hx) hoa hda' hs, hnd⟩
def dispS (prog : Program) (w : World) (l1 l2 : List PL) (s : Shared) : Shared :=
  mergeS prog w s.heap.objs.size (evK l2 (newD (longS prog w s.heap.objs.size l1 (newD s)))) (shortS prog w l2 (longS prog w s.heap.objs.size l1 (newD s)))
theorem disp_run (hu : A.units < cLine) {keys : List (Option Expr)} {values : List Expr} {pos : Pos} {l1 l2 : List PL} {Q : Value → Shared → Prop} (h1 : l1.length = 17) (h2 : 0 < l2.length) (h3 : l2.length ≤ 15)
    (hshape : (evalEachOpt keys env).zip ((evalEach values env).map fun v => do let x ← v; standAt pos; pure x) = (l1.map (PL.sems env pos) ++ l2.map (PL.sems env pos)).map pairUp)
    (hf1 : ∀ x ∈ l1, x.fits) (hf2 : ∀ x ∈ l2, x.fits) (hn : (l1.map PL.zs ++ l2.map PL.zs).Nodup) (hsys : sysModules < s.heap.objs.size)
    (h : Q (.ref s.heap.objs.size) (dispS prog w l1 l2 s)) : wpAny (model prog w) A (eval (.Dict keys values pos) env) Q E s := by
  rw [arm_eval_Dict, hshape]
  have hn' := List.nodup_append.mp hn
  refine wpAny_bind (wpAny_standAt ?_)
  refine wp_disp (by rw [List.length_map]; exact h1) (by rw [List.length_map]; exact h2) (by rw [List.length_map]; omega) ?_
  refine sub_long (prog := prog) (w := w) hu (by omega) hf1 hn'.1 (by rw [sizeLine_eq]; omega) fun hm => ?_
  refine sub_short (prog := prog) (w := w) hu h3 hf2 hn'.2.1 fun ha hs => ?_
  have hlt : s.heap.objs.size < (longS prog w s.heap.objs.size l1 (newD s)).heap.objs.size := by
    obtain ⟨o, _, _, ho, _⟩ := hm
    exact Heap.lt_size ho
  have hk1 : (longK prog w s.heap.objs.size l1 (newD s)).map (·.1) = l1.map PL.zs := longK_keys ..
  have hk2 : (evK l2 (newD (longS prog w s.heap.objs.size l1 (newD s)))).map (·.1) = l2.map PL.zs := evK_keys ..
  have e1 : (longK prog w s.heap.objs.size l1 (newD s)).length = 17 := by rw [longK_length]; exact h1
  have e2 : (evK l2 (newD (longS prog w s.heap.objs.size l1 (newD s)))).length = l2.length := by
    have := congrArg List.length hk2; simpa using this
  have hmid : ∀ b o, (longS prog w s.heap.objs.size l1 (newD s)).heap.get? b = some o → (evS l2 (newD (longS prog w s.heap.objs.size l1 (newD s)))).heap.get? b = some o := fun b o e =>
    evS_keep l2 _ b o (Heap.get?_push_of_some _ e)
  have hbase : (evS l2 (newD (longS prog w s.heap.objs.size l1 (newD s)))).heap.DictOfH (kd prog w) (longS prog w s.heap.objs.size l1 (newD s)).heap.objs.size [] := dict_kept (newD_dict _) (evS_keep l2 _)
  have hm2 := dict_else (Nat.ne_of_lt hlt) hbase (dict_kept hm hmid) hs
  refine merge_run (prog := prog) (w := w) (E := fun _ _ => False) hu (Nat.ne_of_lt hlt) ?_ (xs := longK prog w s.heap.objs.size l1 (newD s)) ?_ hm2 ha ?_ ?_ fun _ => h
  · exact beq_eq_false_iff_ne.mpr (Nat.ne_of_gt (Nat.lt_trans hsys hlt))
  · intro e; rw [e] at e1; simp at e1
  · rw [hk1, hk2]; exact hn
  · rw [e1, e2, sizeLine_eq]; omega
end
end HdX
end
section
set_option Elab.async false
set_option linter.all false
set_option maxRecDepth 100000
/-! The proof's own machine (no kept lists), run off a tree; what it reaches, as wp. -/
namespace HdX
open PySem PySem.W PySem.Calls PyProof.Rows
open Sem (wp)
section
variable (st : SharedT → Thread → Option (SharedT × Thread)) (den : Code → Sem Fin)
/-- one step without kept lists -/
def stepKT (s : SharedT) : Thread → Option (SharedT × Thread)
  | ⟨.pure (.again c), _, pos, stack⟩ => some (s, ⟨den c, c, pos, stack⟩)
  | ⟨.call c h g l k, code, pos, stack⟩ => some (s, ⟨den c, c, pos, .ret k h g l code pos [] :: stack⟩)
  | t => st s t
/-- the end: the stack is down at b frames, a value is handed back -/
def endB (b : Nat) : Thread → Option Flow
  | ⟨.pure (.done f), _, _, stack⟩ => if stack.length = b then some f else none
  | _ => none
/-- a step that may be taken: not loud, nothing of generators, not out of the frames that stand below -/
def okB (b : Nat) (t : Thread) : Bool := !t.loud && match t.cur with
  | .pure (.done _) => Nat.blt b t.stack.length
  | .raise _ => Nat.blt b t.stack.length
  | .resume .. => false
  | .yield .. => false
  | _ => true
def goK (b : Nat) : Nat → SharedT → Thread → Option (SharedT × Flow)
  | 0, _, _ => none
  | m + 1, s, t => match endB b t with
    | some f => some (s, f)
    | none => match okB b t with
      | false => none
      | true => match stepKT st den s t with
        | some (s', t') => HandSHeadRun.frS s' fun s' => goK b m s' t'
        | none => none
/-- just so many steps -/
def stepsK : Nat → SharedT → Thread → Option (SharedT × Thread)
  | 0, s, t => some (s, t)
  | m + 1, s, t => match okB 0 t with
    | false => none
    | true => match stepKT st den s t with
      | some (s', t') => HandSHeadRun.frS s' fun s' => stepsK m s' t'
      | none => none
end
section
variable {P : Program} {w : World}
theorem stepKT_step {s s' : SharedT} {t t' : Thread} (hl : t.loud = false) (h : stepKT (stepT (denote table) P w) (denote table) s t = some (s', t')) : (model P w).step s.abs t = .go s'.abs t' := by
  show stepI (denote table) P w s.abs t = _
  rw [stepI_quiet _ _ _ hl]
  obtain ⟨cur, code, pos, stack⟩ := t
  cases cur with
  | pure fin =>
    cases fin with
    | again c =>
      obtain ⟨rfl, rfl⟩ : s = s' ∧ _ = t' := by simpa [stepKT] using h
      rfl
    | done f =>
      simp only [stepKT] at h
      exact stepT_spec h
  | call c hd g l k =>
    obtain ⟨rfl, rfl⟩ : s = s' ∧ _ = t' := by simpa [stepKT] using h
    rfl
  | _ =>
    simp only [stepKT] at h
    exact stepT_spec h
theorem okB_loud {b : Nat} {t : Thread} (h : okB b t = true) : t.loud = false := by
  unfold okB at h
  have := (Bool.and_eq_true_iff.mp h).1
  simpa using this
/-- what stands below stays below -/
theorem below_stays {M : Model} {base pre : List Frame} {cur : Sem Fin} {c : Code} {p : Pos} {s s' : Shared} {t' : Thread} (ok : okB base.length ⟨cur, c, p, pre ++ base⟩ = true)
    (h : M.step s ⟨cur, c, p, pre ++ base⟩ = .go s' t') : ∃ pre', t'.stack = pre' ++ base := by
  have hl := okB_loud ok
  have h2 : stepK M.den M.prog M.w s ⟨cur, c, p, pre ++ base⟩ = .go s' t' := by
    rw [← stepI_quiet _ _ _ hl]; exact h
  have ok2 := (Bool.and_eq_true_iff.mp ok).2
  obtain ⟨heap, gens, drawn, toks, os⟩ := s
  cases cur with
  | pure fin =>
    cases fin with
    | again c' => simp only [stepK, Step.go.injEq] at h2; obtain ⟨_, rfl⟩ := h2; exact ⟨pre, rfl⟩
    | done f =>
      have q : base.length < (pre ++ base).length := Nat.le_of_ble_eq_true ok2
      cases pre with
      | nil => simp at q
      | cons F pre =>
        cases F <;> (simp only [stepK, List.cons_append, step, Step.go.injEq] at h2; obtain ⟨_, rfl⟩ := h2; exact ⟨pre, rfl⟩)
  | raise e =>
    have q : base.length < (pre ++ base).length := Nat.le_of_ble_eq_true ok2
    cases pre with
    | nil => simp at q
    | cons F pre =>
      cases F <;> (simp only [stepK, List.cons_append, step, Step.go.injEq] at h2; obtain ⟨_, rfl⟩ := h2; exact ⟨pre, rfl⟩)
  | call c' hd g l k => simp only [stepK, Step.go.injEq] at h2; obtain ⟨_, rfl⟩ := h2; exact ⟨_ :: pre, rfl⟩
  | resume => cases ok2
  | «yield» => cases ok2
  | unsupported => simp [stepK, step] at h2
  | finish e => simp only [stepK, step] at h2; split at h2 <;> cases h2
  | rule | «at» | alloc | loadIfAlive | point | fresh | ask | os | newGen | stack | thread | handled =>
    simp only [stepK, step, Step.go.injEq] at h2; obtain ⟨_, rfl⟩ := h2; exact ⟨pre, rfl⟩
  | register | fork | await => simp [stepK, step] at h2
  | load a q k =>
    simp only [stepK, step] at h2
    split at h2
    · simp only [Step.go.injEq] at h2; obtain ⟨_, rfl⟩ := h2; exact ⟨pre, rfl⟩
    · cases h2
  | update a q f k =>
    simp only [stepK, step] at h2
    split at h2
    · simp only [Step.go.injEq] at h2; obtain ⟨_, rfl⟩ := h2; exact ⟨pre, rfl⟩
    · cases h2
  | choose src n k =>
    simp only [stepK, step] at h2
    split at h2
    · cases h2
    · simp only [Step.go.injEq] at h2; obtain ⟨_, rfl⟩ := h2; exact ⟨pre, rfl⟩
  | genState g k =>
    simp only [stepK, step] at h2
    split at h2
    · cases h2
    · simp only [Step.go.injEq] at h2; obtain ⟨_, rfl⟩ := h2; exact ⟨pre, rfl⟩
theorem goK_reach {base : List Frame} : ∀ (m : Nat) (s s' : SharedT) (cur : Sem Fin) (c : Code) (p : Pos) (pre : List Frame) (f : Flow), goK (stepT (denote table) P w) (denote table) base.length m s ⟨cur, c, p, pre ++ base⟩ = some (s', f) →
    Reach (model P w) base s.abs cur c p pre s'.abs (.ret (.ok f))
  | 0, _, _, _, _, _, _, _, h => by cases h
  | m + 1, s, s', cur, c, p, pre, f, h => by
    unfold goK at h
    cases he : endB base.length ⟨cur, c, p, pre ++ base⟩ with
    | some f' =>
      rw [he] at h
      obtain ⟨rfl, rfl⟩ : s = s' ∧ f' = f := by simpa using h
      unfold endB at he
      split at he
      · rename_i e
        injection e with e1 e2 e3 e4
        split at he
        · rename_i hlen
          obtain rfl := Option.some.inj he
          rw [← e4, List.length_append] at hlen
          have : pre = [] := List.length_eq_zero_iff.mp (by omega)
          subst this
          exact .exit ⟨e1, rfl⟩
        · cases he
      · cases he
    | none =>
      rw [he] at h
      cases ho : okB base.length ⟨cur, c, p, pre ++ base⟩ with
      | false => rw [ho] at h; cases h
      | true =>
        rw [ho] at h
        cases hs : stepKT (stepT (denote table) P w) (denote table) s ⟨cur, c, p, pre ++ base⟩ with
        | none => rw [hs] at h; cases h
        | some r =>
          obtain ⟨s1, ⟨cur1, c1, p1, st1⟩⟩ := r
          rw [hs] at h
          dsimp only at h
          rw [HandSHeadRun.frS_eq] at h
          have e := stepKT_step (okB_loud ho) hs
          obtain ⟨pre1, e1⟩ := below_stays ho e
          have e1' : st1 = pre1 ++ base := e1
          subst e1'
          exact .step e (goK_reach m s1 s' cur1 c1 p1 pre1 f h)
/-- a run of a block's part, as wp -/
theorem wp_of_go {base : List Frame} {c : Code} {x : Sem Flow} {p : Pos} {m : Nat} {s s' : SharedT} (h : goK (stepT (denote table) P w) (denote table) base.length m s ⟨x >>= fun f => pure (.done f), c, p, base⟩ = some (s', .next))
    {Q : Flow → Pos → Shared → Prop} {E : Value → Pos → Shared → Prop} (hQ : ∀ p', Q .next p' s'.abs) : wp (model P w) (Ctx.of c base) x Q E p s.abs := by
  have r := goK_reach (pre := []) m s s' _ c p .next h
  have q := (wp_iff_reach (M := model P w) (base := base) (c := c) (x >>= fun f => pure (.done f)) (fun r s1 => r = .ok .next ∧ s1 = s'.abs) p s.abs).mpr ⟨_, _, r, rfl, rfl⟩
  rw [Sem.wp_bind'] at q
  refine Sem.wp_mono (model P w) (Ctx.of c base) x (fun f p1 s1 h1 => ?_) (fun e p1 s1 h1 => ?_) p s.abs q
  · have h2 : (Except.ok f : Result) = .ok .next ∧ s1 = s'.abs := h1
    obtain ⟨e1, rfl⟩ := h2
    cases e1
    exact hQ p1
  · exact nomatch h1.1
end
end HdX
end
section
set_option Elab.async false
set_option linter.all false
set_option maxRecDepth 100000
namespace HdX
open PySem PySem.W PySem.Calls PyProof.Rows
open Sem (wp)
section
variable {P : Program} {w : World}
theorem stepsK_reach {S : Shared} {e : End} : ∀ (m : Nat) (s s' : SharedT) (t t' : Thread), stepsK (stepT (denote table) P w) (denote table) m s t = some (s', t') →
    Reach (model P w) [] s'.abs t'.cur t'.code t'.pos t'.stack S e → Reach (model P w) [] s.abs t.cur t.code t.pos t.stack S e
  | 0, s, s', t, t', h, r => by
    obtain ⟨rfl, rfl⟩ : s = s' ∧ t = t' := by simpa [stepsK] using h
    exact r
  | m + 1, s, s', ⟨cur, c, p, st⟩, t', h, r => by
    unfold stepsK at h
    cases ho : okB 0 ⟨cur, c, p, st⟩ with
    | false => rw [ho] at h; cases h
    | true =>
      rw [ho] at h
      cases hs : stepKT (stepT (denote table) P w) (denote table) s ⟨cur, c, p, st⟩ with
      | none => rw [hs] at h; cases h
      | some x =>
        obtain ⟨s1, ⟨cur1, c1, p1, st1⟩⟩ := x
        rw [hs] at h
        dsimp only at h
        rw [HandSHeadRun.frS_eq] at h
        have q := stepsK_reach m s1 s' _ t' h r
        have e1 := stepKT_step (okB_loud ho) hs
        refine .step (pre₁ := st1) ?_ q
        rw [List.append_nil, List.append_nil]
        exact e1
/-- a block's statements, part by part -/
theorem wp_execs_app {M : Model} {Γ : Ctx} {env : Env} {Q : Flow → Pos → Shared → Prop} {E : Value → Pos → Shared → Prop} : ∀ (l r : List Stmt) (p : Pos) (s : Shared),
    wp M Γ (execs l env) (fun f p' s' => f = .next ∧ wp M Γ (execs r env) Q E p' s') E p s → wp M Γ (execs (l ++ r) env) Q E p s
  | [], r, p, s, h => by
    have h1 : wp M Γ (pure .next : Sem Flow) (fun f p' s' => f = .next ∧ wp M Γ (execs r env) Q E p' s') E p s := h
    rw [Sem.wp_pure'] at h1
    exact h1.2
  | x :: l, r, p, s, h => by
    have h1 : wp M Γ (exec x env >>= fun f => match f with | .next => execs l env | f => pure f) (fun f p' s' => f = .next ∧ wp M Γ (execs r env) Q E p' s') E p s := h
    show wp M Γ (exec x env >>= fun f => match f with | .next => execs (l ++ r) env | f => pure f) Q E p s
    rw [Sem.wp_bind'] at h1 ⊢
    refine Sem.wp_mono M Γ _ (fun f p1 s1 h2 => ?_) (fun _ _ _ z => z) p s h1
    cases f with
    | next => exact wp_execs_app l r p1 s1 h2
    | brk => exact nomatch (show (Flow.brk = .next ∧ _) from h2).1
    | cont => exact nomatch (show (Flow.cont = .next ∧ _) from h2).1
    | ret v => exact nomatch (show (Flow.ret v = .next ∧ _) from h2).1
theorem den_body (ss : List Stmt) (env : Env) : denote table (.body ss env) = (do
    blockStart ss env
    return .done (← (execs ss env).onRaise (leaving env))) := rfl
/-- the body of the top, from its parts -/
theorem body_reach {ss : List Stmt} {env : Env} {q : Pos} {base : List Frame} {s S : Shared} (hb : blockStart ss env = pure ()) (h : ∀ p, wp (model P w) (Ctx.of (.body ss env) base) (execs ss env) (fun f _ s' => f = .next ∧ s' = S) (fun _ _ _ => False) p s) :
    Reach (model P w) base s (denote table (.body ss env)) (.body ss env) q [] S (.ret (.ok .next)) := by
  have k : wp (model P w) (Ctx.of (.body ss env) base) (denote table (.body ss env)) (Sem.finPost (model P w) (Ctx.of (.body ss env) base) fun r s1 => r = .ok .next ∧ s1 = S) (fun e _ s1 => (Except.error e : Result) = .ok .next ∧ s1 = S) q s := by
    rw [den_body, hb, Sem.wp_bind', Sem.wp_pure', Sem.wp_bind', Sem.wp_onRaise]
    refine Sem.wp_mono (model P w) _ _ (fun f p1 s1 h1 => ?_) (fun _ _ _ z => z.elim) q s (h q)
    rw [Sem.wp_pure']
    obtain ⟨rfl, rfl⟩ := h1
    exact ⟨rfl, rfl⟩
  obtain ⟨r, s', hr, e1, e2⟩ := (wp_iff_reach (M := model P w) (base := base) (c := .body ss env) _ _ q s).mp k
  rw [e1, e2] at hr
  exact hr
/-- behind the body the stub hands back None -/
theorem stub_end {S : Shared} {c : Code} {p q : Pos} : Reach (model P w) [] S (.pure (.done .next)) c p [topFrame q] S (.ret (.ok (.ret .none))) := by
  refine .step (pre₁ := []) (s₁ := S) (t₁ := topAfter (.ok .next)) (c₁ := .builtin "claim.caller" {}) (p₁ := q) ?_ (.exit ⟨rfl, rfl⟩)
  show stepI _ _ _ _ _ = _
  rw [stepI_quiet _ _ _ (by rfl)]
  rfl
/-- a halt by a value: the state just ahead is through -/
theorem halt_done {s s1 : Shared} {t : Thread} {f : Flow} (h : step (denote table) P w s t = .halt (.done f) s1) : s1 = s ∧ through t = true := by
  obtain ⟨heap, gens, drawn, toks, os⟩ := s
  obtain ⟨cur, code, pos, stack⟩ := t
  cases cur with
  | pure fin =>
    cases fin with
    | again c => simp [step] at h
    | done g =>
      cases stack with
      | nil =>
        simp only [step, finish] at h
        split at h
        · cases h
        · injection h with h1 h2
          exact ⟨h2.symm, rfl⟩
      | cons F r => cases F <;> simp [step] at h
  | raise e =>
    cases stack with
    | nil =>
      simp only [step, finish] at h
      split at h <;> cases h
    | cons F r => cases F <;> simp [step] at h
  | finish e => simp only [step] at h; split at h <;> cases h
  | unsupported | register | fork | await => simp [step] at h
  | rule | «at» | alloc | loadIfAlive | point | fresh | ask | os | newGen | stack | thread | handled | call => simp [step] at h
  | load a q k => simp only [step] at h; split at h <;> cases h
  | update a q f k => simp only [step] at h; split at h <;> cases h
  | choose src n k => simp only [step] at h; split at h <;> cases h
  | genState g k => simp only [step] at h; split at h <;> cases h
  | resume g r l k =>
    simp only [step] at h
    split at h
    · cases h
    · split at h <;> cases h
    · cases h
    · cases h
    · cases h
  | «yield» v g0 l kk => simp only [step] at h; split at h <;> cases h
theorem through_of_halt {S : Shared} {f : Flow} : ∀ (n : Nat) (s : Shared) (t : Thread), s.asleep → PySem.runN (denote table) P w n s t = .halted (.done f) S → (∀ k s₁ t₁, PySem.runN (denote table) P w k s t = .running s₁ t₁ → t₁.calm = true) →
    ∃ m t₁, schedN (denote table) P w m (.single s t) = .running (.single S t₁) ∧ through t₁ = true
  | 0, _, _, _, h, _ => by cases h
  | n + 1, s, t, hr, h, hc => by
    have hc0 : t.calm = true := hc 0 s t rfl
    have h' : (match step (denote table) P w s t with
      | .go s' t' => PySem.runN (denote table) P w n s' t'
      | .halt o s' => .halted o s') = .halted (.done f) S := h
    cases hs : step (denote table) P w s t with
    | halt o s1 =>
      rw [hs] at h'
      injection h' with e1 e2
      subst e1 e2
      obtain ⟨e3, e4⟩ := halt_done hs
      subst e3
      exact ⟨0, t, rfl, e4⟩
    | go s1 t1 =>
      rw [hs] at h'
      have hr1 : s1.asleep := Shared.asleep_of_life (step_life (denote table) P w s s1 t t1 hs) hr
      obtain ⟨m, t2, hm, ht⟩ := through_of_halt n s1 t1 hr1 h' fun k s2 t2 e => hc (k + 1) s2 t2 (by
        show (match step (denote table) P w s t with
          | .go s' t' => PySem.runN (denote table) P w k s' t'
          | .halt o s' => .halted o s') = _
        rw [hs]; exact e)
      have es : sstep (denote table) P w (.single s t) = .go (.single s1 t1) := by
        rcases sstep_single (denote table) P w s t hc0 hr with e | e
        · rw [e, hs]; rfl
        · rw [hs] at e; cases e
      refine ⟨m + 1, t2, ?_, ht⟩
      show (match sstep (denote table) P w (.single s t) with
        | .go c' => schedN (denote table) P w m c'
        | .halt o s => .halted o s) = _
      rw [es]; exact hm
/-- the whole top, from its parts -/
theorem top_run {ss la lb : List Stmt} {env : Env} {q : Pos} {n1 nA : Nat} {S0 Sb S1 S3 : SharedT} (hr : S0.abs.asleep)
    (h1 : stepsK (stepT (denote table) P w) (denote table) n1 S0 (topStub P) = some (Sb, ⟨denote table (.body ss env), .body ss env, q, [topFrame q]⟩))
    (hss : ss = la ++ lb) (hb : blockStart ss env = pure ())
    (hA : ∀ p, goK (stepT (denote table) P w) (denote table) 1 nA Sb ⟨execs la env >>= fun f => pure (.done f), .body ss env, p, [topFrame q]⟩ = some (S1, .next))
    (hB : ∀ p, wp (model P w) (Ctx.of (.body ss env) [topFrame q]) (execs lb env) (fun f _ s' => f = .next ∧ s' = S3.abs) (fun _ _ _ => False) p S1.abs) (hg : S3.gens = #[]) :
    ∃ n t, schedN (denote table) P w n (.single S0.abs (topStub P)) = .running (.single S3.abs t) ∧ through t = true := by
  have r1 : Reach (model P w) [topFrame q] Sb.abs (denote table (.body ss env)) (.body ss env) q [] S3.abs (.ret (.ok .next)) := by
    refine body_reach hb fun p => ?_
    rw [hss] at hA hB ⊢
    refine wp_execs_app la lb p Sb.abs ?_
    exact wp_of_go (base := [topFrame q]) (hA p) fun p' => ⟨rfl, hB p'⟩
  have r2 : Reach (model P w) [] Sb.abs (denote table (.body ss env)) (.body ss env) q ([] ++ [topFrame q]) S3.abs (.ret (.ok (.ret .none))) := by
    refine Reach.under (base := []) (B := [topFrame q]) r1 fun t' c' p' pre' hx => ?_
    obtain ⟨rfl, rfl⟩ := hx
    exact stub_end
  have r3 := stepsK_reach n1 S0 Sb (topStub P) _ h1 r2
  obtain ⟨n, t', c', p', pre', hn, hx⟩ := r3.runN
  obtain ⟨rfl, rfl⟩ := hx
  have hh : (model P w).runN (n + 1) S0.abs (topStub P) = .halted (.done (.ret .none)) S3.abs := by
    have e := runN_snoc hn
    rw [List.append_nil] at e
    refine e.trans ?_
    have e2 : (model P w).step S3.abs ⟨leafOf (.ok (.ret .none)), c', p', [] ++ []⟩ = .halt (.done (.ret .none)) S3.abs := by
      show stepI _ _ _ _ _ = _
      rw [stepI_quiet _ _ _ (by rfl)]
      show finish _ _ = _
      unfold finish
      have z : leftWithCleanup S3.abs.gens = false := by
        show leftWithCleanup S3.gens = false
        rw [hg]; simp [leftWithCleanup]
      have z2 : ¬ (leftWithCleanup S3.abs.gens = true) := by rw [z]; simp
      exact if_neg z2
    rw [e2]
  obtain ⟨s2, k1, k2, k3⟩ := runNI_real (denote table) P w hh rfl
  have e : s2 = S3.abs := Shared.eq_of_forget_eq k2 hg
  subst e
  exact through_of_halt (n + 1) S0.abs (topStub P) hr k1 k3
end
end HdX
end
section
set_option Elab.async false
set_option linter.all false
set_option maxRecDepth 100000
namespace HdX
open PySem PySem.W PySem.Calls PyProof.Rows
/-- what must stand behind the top, in a world -/
def Stands (r : OpenSpec) (q : Program) (loose : List Str) (YP : World → Heap → Prop) (w : World) : Prop :=
  (∃ s, AfterRun (opening r.prog) w s) ∧ ∀ s, AfterRun (opening r.prog) w s → ∃ t, fenceModules? r.prog s = some t ∧ t.gens = #[] ∧
    ∃ u, TopRan r.prog w t u ∧ u.asleep ∧ u.gens = #[] ∧ u.heap.isNs mainGlobals = true ∧ Ground q loose [] (XL q []) w u (u.heap.nsMap mainGlobals) (u.heap.nsMap builtinsNs) u.heap ∧ YP w u.heap
theorem holds_from {r : OpenSpec} {q : Program} {loose : List Str} {YP : World → Heap → Prop} {d : DefRec} {kwd : List (Str × Expr)} (stands : ∀ w, Stands r q loose YP w)
    (keepY : ∀ w h h', YP w h → (∀ b o, h.get? b = some o → h'.get? b = some o) → YP w h')
    (hdef : defOf q r.name = some (d, kwd)) (hp : r.prog.theDef r.name = some (d.params, d.body, d.scope)) (hkw : kwWritten? d.params.kwonlyargs d.params.kw_defaults = some kwd) (hsh : ∀ as, r.pre as = true → WShape.hasAll [] as (r.args.map Codec.shape) = true)
    (k1 : r.wellSaid = true) (ok : (chainsOk q && opensWell r.prog) = true) (hb : r.prog.bare) (hw : ∃ args, r.pre args = true ∧ WData.layableAll args = true)
    (call : WalkOS q loose (XL q []) YP r d kwd fun f vs => PySem.call f vs) : r.Holds := by
  have o1 := (Bool.and_eq_true_iff.mp ok).2
  refine ⟨k1, ⟨hb, o1, rfl⟩, hw, fun w => ⟨(stands w).1, fun s' hs' => ?_⟩⟩
  obtain ⟨t, hf, hg0, u, hT, hz, hgens, hg, G, y⟩ := (stands w).2 s' hs'
  have hpin : ∀ n ∈ [r.name], isTheDefsW r.claim.prog u.heap n := fun n hn => by
    obtain rfl : n = r.name := by simpa using hn
    exact pinned_of_view hg G hdef hp hkw
  have RF : RecFacts [] u.heap := recFacts_nil rfl
  refine ⟨t, hf, hg0, u, hT, hpin, RF.1, RF.2.1, ?_⟩
  refine ClaimW.callFrom_of_specG (c := r.claim) hz hgens fun args hpre hlay ord hord => ?_
  obtain ⟨⟨vs, v⟩, hlaid⟩ := Option.isSome_iff_exists.mp
    (layAllW_isSome (P := w.params) (ord := ord) G.has args (r.args.map Codec.shape) u (hsh _ hpre))
  have kp := layAllW_keeps _ _ _ hlaid
  have rest := layAllW_rest _ _ _ hlaid
  obtain ⟨as, hrd, hin, hold⟩ :=
    reads_layAllW hord _ _ _ hlaid hlay v.heap (fun _ _ e => e)
  have L : Laid [] w u v args vs as :=
    ⟨⟨ord, hord, hlaid⟩, hrd, hin, hold, kp, rest.1.trans hgens, rest.2.2.1⟩
  have G1 := G.keeps XL.keeps kp
  obtain ⟨a, o, pm, cd, doc, dV, kV, f1, f2, f3, f4, f5⟩ := G1.fn hdef
  have hcall := call w u v _ _ G1 (keepY _ _ _ y kp) a o pm cd doc dV kV f2 f3 f4 f5 (defOf_name hdef ▸ f1) L.gens args vs as hpre hlay L.reads L.well (L.low G.low)
  refine ⟨vs, v, hlaid, ?_⟩
  refine wpAny_bind (wpAny_nsGet G1.T.g ?_)
  rw [f1]
  refine wpAny_bind (wpAny_mono hcall (fun x s2 g => ?_) fun e s2 g => ?_)
  · have z := g.laid (c := r.claim) rfl rfl (fun _ _ => rfl) L
    exact wpAny_pure ⟨_, rfl, z.1, z.2.1, z.2.2, fun n => nomatch n⟩
  · have z := g.laid (c := r.claim) rfl rfl (fun _ _ => rfl) L
    exact ⟨z.1, z.2.1, z.2.2, fun n => nomatch n⟩
end HdX
end
section
set_option Elab.async false
set_option linter.all false
set_option maxRecDepth 100000
namespace HdX
open PySem PySem.W PySem.Calls PyProof.Rows
/-- the state ahead of the top -/
noncomputable def S0 (w : World) (os : OsState) : Shared := ⟨boot_heap w.params, #[], boot_drawn, boot_toks, os⟩
abbrev Xt (q : Program) : Shared → Bool := fun s => xlAt q [] s && recOk [] s
/-- what the run of the top must give, in a world -/
structure TopEnds (P q : Program) (loose : List Str) (YP : World → Heap → Prop) (w : World) (os : OsState) (S : Shared) : Prop where
  run : ∃ n t, schedN (denote table) P w n (.single (S0 w os) (topStub P)) = .running (.single S t) ∧ through t = true
  gens : S.gens = #[]
  life : S.heap.life = (boot_heap w.params).life
  os : S.os = os
  frame : ∀ b o, (boot_heap w.params).get? b = some o → b ≠ mainNs → b ≠ cStatics → S.heap.get? b = some o
  looks : HandSHeadRun.looksF P (boot_heap w.params) S = true
  seen : openSeen q loose (importedModules P.main.body) (Xt q) true S = openGood q loose
  says : YP w S.heap
theorem stands_of {r : OpenSpec} {q : Program} {loose : List Str} {YP : World → Heap → Prop} (e : opening r.prog = plainProg r.prog.main.scope.names) (f : ∀ s, fenceModules? r.prog s = some s) (hch : chainsOk q = true)
    (w : World) (ends : ∀ os, (S0 w os).asleep → ∃ S, TopEnds r.prog q loose YP w os S) : Stands r q loose YP w := by
  have b := boot_open (p := r.prog) (N := 600) e rfl f w
  obtain ⟨s0, h0, e0⟩ := Option.map_eq_some_iff.mp b
  unfold fencedOpening at h0
  rw [← table_eq_tree] at h0
  obtain ⟨s, h4, h5⟩ := Option.bind_eq_some_iff.mp h0
  have A := AfterImport.of_importEnds h4
  refine ⟨⟨s, A⟩, fun s' hs' => ?_⟩
  obtain rfl : s' = s := AfterImport.unique hs' A
  have z : s0.asleep := Shared.asleep_of_life (fence_lifeW h5) A.life
  obtain ⟨hp, gs, dr, tk, os⟩ := s0
  obtain ⟨rfl, rfl, rfl, rfl⟩ : hp = boot_heap w.params ∧ gs = Array.mk [] ∧ dr = boot_drawn ∧ tk = boot_toks := by simpa using e0
  obtain ⟨S, T⟩ := ends os z
  obtain ⟨G, g0, g1, g2, g3, g4, g5⟩ := ground_of_open (w := w) (XP := XL q []) (fun s z => xl_of s (Bool.and_eq_true_iff.mp z).1) hch T.seen
  obtain ⟨k1, k4⟩ := Bool.and_eq_true_iff.mp T.looks
  obtain ⟨k2, k3⟩ := Bool.and_eq_true_iff.mp k1
  obtain ⟨k5, k6⟩ := Bool.and_eq_true_iff.mp k2
  exact ⟨_, h5, rfl, S, ⟨T.run, T.life, Shared.rest_eq T.os, fun b o hb hn => T.frame b o hb (fun x => hn (.inl x)) fun x => hn (.inr (.inl x)), g2, statics_of_ok k5, g3, g4, g5, gens_of_done k3, names_of_bound k6, laid_of_kept k4⟩,
    Shared.asleep_of_life T.life z, T.gens, g1, G, T.says⟩
end HdX
end
section
set_option Elab.async false
set_option linter.all false
set_option maxRecDepth 100000
namespace HdX
open PySem PySem.W PySem.Calls PyProof.Rows
open Sem (wp)
/-! ## the display off a tree -/
def pushT (o : Obj) (s : SharedT) : Option SharedT := match ((s.tree.ins s.n o).get s.n).isSome with
  | true => some ⟨s.tree.ins s.n o, s.n + 1, s.life, s.gens, s.drawn, s.toks, s.os⟩
  | false => none
theorem pushT_abs {o : Obj} {s s' : SharedT} (h : pushT o s = some s') : s'.abs = { s.abs with heap := s.abs.heap.push o } := by
  unfold pushT at h
  cases q : ((s.tree.ins s.n o).get s.n).isSome with
  | false => rw [q] at h; cases h
  | true =>
    rw [q] at h
    obtain rfl := Option.some.inj h
    show (⟨absHeap (s.tree.ins s.n o) (s.n + 1) s.life, _, _, _, _⟩ : Shared) = _
    rw [absHeap_ins q]
    rfl
theorem size_abs (s : SharedT) : s.abs.heap.objs.size = s.n := absHeap_size _ _ _
def updT (d : Addr) (f : Obj → Obj) (s : SharedT) : Option SharedT := match s.tree.get d with
  | some _ => some ⟨s.tree.set d f, s.n, s.life, s.gens, s.drawn, s.toks, s.os⟩
  | none => none
theorem updT_abs {d : Addr} {f : Obj → Obj} {s s' : SharedT} (h : updT d f s = some s') : s'.abs = { s.abs with heap := s.abs.heap.update d f } := by
  unfold updT at h
  cases q : s.tree.get d with
  | none => rw [q] at h; cases h
  | some o =>
    rw [q] at h
    obtain rfl := Option.some.inj h
    show (⟨absHeap (s.tree.set d f) s.n s.life, _, _, _, _⟩ : Shared) = _
    rw [absHeap_set q]
    rfl
def tokT (k : Nat) (s : SharedT) : SharedT := ⟨s.tree, s.n, s.life, s.gens, s.drawn, s.toks + k, s.os⟩
theorem tokT_abs (k : Nat) (s : SharedT) : (tokT k s).abs = { s.abs with toks := s.abs.toks + k } := rfl
/-- the next state, its numbers in normal form -/
def nrm (s : SharedT) : SharedT := HandSHeadRun.frS s fun s => s
theorem nrm_eq (s : SharedT) : nrm s = s := HandSHeadRun.frS_eq s _
def flatT (ls : List Lit) (s : SharedT) : Option SharedT := (pushT (tupObj (strsAt (ls.map (·.z)) s.toks)) s).map fun s' => nrm (tokT ls.length s')
theorem flatT_abs {ls : List Lit} {s s' : SharedT} (h : flatT ls s = some s') : s'.abs = flatRun ls s.abs := by
  obtain ⟨u, hu, rfl⟩ := Option.map_eq_some_iff.mp h
  rw [nrm_eq, tokT_abs, pushT_abs hu]
  rfl
def itT : It → SharedT → Option (Value × SharedT)
  | .lit l, s => some (.str l.z s.toks, nrm (tokT 1 s))
  | .tup ls _ _, s => (flatT ls s).map fun s' => (.ref s.n, s')
theorem itT_abs {i : It} {s : SharedT} {r : Value × SharedT} (h : itT i s = some r) : i.run s.abs = (r.1, r.2.abs) := by
  cases i with
  | lit l =>
    obtain rfl := Option.some.inj h
    rw [nrm_eq]
    rfl
  | tup ls k p =>
    obtain ⟨u, hu, rfl⟩ := Option.map_eq_some_iff.mp h
    show (Value.ref s.abs.heap.objs.size, flatRun ls s.abs) = (Value.ref s.n, u.abs)
    rw [flatT_abs hu, size_abs]
def runsT : List It → SharedT → Option (List Value × SharedT)
  | [], s => some ([], s)
  | i :: l, s => match itT i s with
    | some (v, s1) => (match runsT l s1 with
      | some (vs, s2) => some (v :: vs, s2)
      | none => none)
    | none => none
theorem runsT_abs : ∀ {l : List It} {s : SharedT} {r : List Value × SharedT}, runsT l s = some r → runs l s.abs = (r.1, r.2.abs)
  | [], s, r, h => by obtain rfl := Option.some.inj h; rfl
  | i :: l, s, r, h => by
    unfold runsT at h
    cases q : itT i s with
    | none => rw [q] at h; cases h
    | some x =>
      obtain ⟨v, s1⟩ := x
      rw [q] at h
      cases q2 : runsT l s1 with
      | none => simp only [q2] at h; cases h
      | some y =>
        obtain ⟨vs, s2⟩ := y
        simp only [q2] at h
        obtain rfl := Option.some.inj h
        have e1 := itT_abs q
        have e2 := runsT_abs q2
        show ((i.run s.abs).1 :: (runs l (i.run s.abs).2).1, (runs l (i.run s.abs).2).2) = _
        rw [e1]
        dsimp only
        rw [e2]
/-- key and value: the value's address, the state -/
def plT (x : PL) (s : SharedT) : Option (Addr × SharedT) := match flatT x.kl s with
  | some s1 => (match runsT x.vl s1 with
    | some (vs, s2) => (pushT (tupObj vs) s2).map fun s3 => (s2.n, nrm s3)
    | none => none)
  | none => none
theorem plT_abs {x : PL} {s : SharedT} {r : Addr × SharedT} (h : plT x s = some r) : x.val s.abs = .ref r.1 ∧ x.run s.abs = r.2.abs ∧ x.key s.abs = s.n := by
  unfold plT at h
  cases q : flatT x.kl s with
  | none => rw [q] at h; cases h
  | some s1 =>
    rw [q] at h
    dsimp only at h
    cases q2 : runsT x.vl s1 with
    | none => rw [q2] at h; cases h
    | some y =>
      obtain ⟨vs, s2⟩ := y
      rw [q2] at h
      obtain ⟨u, hu, rfl⟩ := Option.map_eq_some_iff.mp h
      have e1 := flatT_abs q
      have e2 := runsT_abs q2
      refine ⟨?_, ?_, size_abs s⟩
      · show Value.ref (tupAt x.vl (flatRun x.kl s.abs)) = _
        unfold tupAt
        rw [← e1, e2]
        exact congrArg Value.ref (size_abs s2)
      · show tupRun x.vl (flatRun x.kl s.abs) = (nrm u).abs
        unfold tupRun
        rw [← e1, e2, nrm_eq, pushT_abs hu]
section
variable (P : Program) (w : World)
def putT (d : Addr) (zs : List Str) (a : Addr) (v : Value) (s : SharedT) : Option SharedT := updT d (Obj.mapDictKeys fun es => es.push (entry P w zs a v)) s
def longT (d : Addr) : List PL → SharedT → Option SharedT
  | [], s => some s
  | x :: l, s => match plT x s with
    | some (a, s1) => (match putT P w d x.zs s.n (.ref a) s1 with
      | some s2 => longT d l (nrm (tokT (x.zs.length + 1) s2))
      | none => none)
    | none => none
def evT : List PL → SharedT → Option (Ks × SharedT)
  | [], s => some ([], s)
  | x :: l, s => match plT x s with
    | some (a, s1) => (match evT l s1 with
      | some (ks, s2) => some ((x.zs, s.n, .ref a) :: ks, s2)
      | none => none)
    | none => none
def putsT (d : Addr) : Ks → SharedT → Option SharedT
  | [], s => some s
  | k :: l, s => match putT P w d k.1 k.2.1 k.2.2 s with
    | some s1 => putsT d l (nrm (tokT (k.1.length + 1) s1))
    | none => none
def mergT (d : Addr) : Ks → SharedT → Option SharedT
  | [], s => some s
  | k :: l, s => match putT P w d k.1 k.2.1 k.2.2 s with
    | some s1 => mergT d l (nrm s1)
    | none => none
def dispT (l1 l2 : List PL) (s : SharedT) : Option SharedT := match pushT dict0 s with
  | some s1 => (match longT P w s.n l1 (nrm s1) with
    | some s2 => (match pushT dict0 s2 with
      | some s3 => (match evT l2 (nrm s3) with
        | some (ks, s4) => (match putsT P w s2.n ks s4 with
          | some s5 => mergT P w s.n ks s5
          | none => none)
        | none => none)
      | none => none)
    | none => none)
  | none => none
end
section
variable {P : Program} {w : World}
theorem putT_abs {d a : Addr} {zs : List Str} {v : Value} {s s' : SharedT} (h : putT P w d zs a v s = some s') : s'.abs = { s.abs with heap := putNew P w d zs a v s.abs.heap } := updT_abs h
theorem longT_abs {d : Addr} : ∀ {l : List PL} {s s' : SharedT}, longT P w d l s = some s' → s'.abs = longS P w d l s.abs
  | [], s, s', h => by obtain rfl := Option.some.inj h; rfl
  | x :: l, s, s', h => by
    unfold longT at h
    cases q : plT x s with
    | none => rw [q] at h; cases h
    | some y =>
      obtain ⟨a, s1⟩ := y
      rw [q] at h
      dsimp only at h
      cases q2 : putT P w d x.zs s.n (.ref a) s1 with
      | none => rw [q2] at h; cases h
      | some s2 =>
        rw [q2] at h
        dsimp only at h
        rw [nrm_eq] at h
        obtain ⟨e1, e2, e3⟩ := plT_abs q
        have ih := longT_abs h
        rw [ih, tokT_abs, putT_abs q2]
        show longS P w d l _ = longS P w d l (stepL P w d x s.abs)
        unfold stepL
        rw [e1, e2, e3]
theorem evT_abs : ∀ {l : List PL} {s : SharedT} {r : Ks × SharedT}, evT l s = some r → evK l s.abs = r.1 ∧ evS l s.abs = r.2.abs
  | [], s, r, h => by obtain rfl := Option.some.inj h; exact ⟨rfl, rfl⟩
  | x :: l, s, r, h => by
    unfold evT at h
    cases q : plT x s with
    | none => rw [q] at h; cases h
    | some y =>
      obtain ⟨a, s1⟩ := y
      rw [q] at h
      dsimp only at h
      cases q2 : evT l s1 with
      | none => rw [q2] at h; cases h
      | some z =>
        obtain ⟨ks, s2⟩ := z
        rw [q2] at h
        obtain rfl := Option.some.inj h
        obtain ⟨e1, e2, e3⟩ := plT_abs q
        obtain ⟨i1, i2⟩ := evT_abs q2
        constructor
        · show (x.zs, x.key s.abs, x.val s.abs) :: evK l (x.run s.abs) = _
          rw [e1, e2, e3, i1]
        · show evS l (x.run s.abs) = _
          rw [e2, i2]
theorem putsT_abs {d : Addr} : ∀ {l : Ks} {s s' : SharedT}, putsT P w d l s = some s' → s'.abs = putS P w d l s.abs
  | [], s, s', h => by obtain rfl := Option.some.inj h; rfl
  | k :: l, s, s', h => by
    unfold putsT at h
    cases q : putT P w d k.1 k.2.1 k.2.2 s with
    | none => rw [q] at h; cases h
    | some s1 =>
      rw [q] at h
      dsimp only at h
      rw [nrm_eq] at h
      rw [putsT_abs h, tokT_abs, putT_abs q]
      rfl
theorem mergT_abs {d : Addr} : ∀ {l : Ks} {s s' : SharedT}, mergT P w d l s = some s' → s'.abs = mergeS P w d l s.abs
  | [], s, s', h => by obtain rfl := Option.some.inj h; rfl
  | k :: l, s, s', h => by
    unfold mergT at h
    cases q : putT P w d k.1 k.2.1 k.2.2 s with
    | none => rw [q] at h; cases h
    | some s1 =>
      rw [q] at h
      dsimp only at h
      rw [nrm_eq] at h
      rw [mergT_abs h, putT_abs q]
      rfl
theorem dispT_abs {l1 l2 : List PL} {s s' : SharedT} (h : dispT P w l1 l2 s = some s') : s'.abs = dispS P w l1 l2 s.abs := by
  unfold dispT at h
  cases q1 : pushT dict0 s with
  | none => rw [q1] at h; cases h
  | some s1 =>
    rw [q1] at h
    dsimp only at h
    rw [nrm_eq] at h
    cases q2 : longT P w s.n l1 s1 with
    | none => rw [q2] at h; cases h
    | some s2 =>
      rw [q2] at h
      dsimp only at h
      cases q3 : pushT dict0 s2 with
      | none => rw [q3] at h; cases h
      | some s3 =>
        rw [q3] at h
        dsimp only at h
        rw [nrm_eq] at h
        cases q4 : evT l2 s3 with
        | none => rw [q4] at h; cases h
        | some y =>
          obtain ⟨ks, s4⟩ := y
          rw [q4] at h
          dsimp only at h
          cases q5 : putsT P w s2.n ks s4 with
          | none => rw [q5] at h; cases h
          | some s5 =>
            rw [q5] at h
            dsimp only at h
            have e1 : s1.abs = newD s.abs := pushT_abs q1
            have e2 := longT_abs q2
            have e3 : s3.abs = newD s2.abs := pushT_abs q3
            obtain ⟨e4, e4'⟩ := evT_abs q4
            have e5 := putsT_abs q5
            have e6 := mergT_abs h
            unfold dispS shortS
            rw [e6, e5, size_abs, ← e1, ← e2, ← e3, e4, e4', size_abs]
end
end HdX
end
section
set_option Elab.async false
set_option linter.all false
set_option maxRecDepth 100000
namespace HdX
open PySem PySem.W PySem.Calls PyProof.Rows
open Sem (wp)
section
variable {P : Program} {w : World}
/-- the body's context; what the rules ask of it -/
abbrev Gam (ss : List Stmt) (env : Env) (q : Pos) : Ctx := Ctx.of (.body ss env) [topFrame q]
def Aro (ss : List Stmt) (env : Env) (q : Pos) : Around := { handled := none, depth := frameCount (Gam ss env q).below + (Code.body ss env).weight, frames := none, guards := none, units := (Gam ss env q).units }
theorem gam_in (ss : List Stmt) (env : Env) (q : Pos) : (Gam ss env q).In (Aro ss env q) := ⟨rfl, Nat.le_refl _, fun l h => (nomatch h), fun l h => (nomatch h), Nat.le_refl _⟩
theorem wp_assign {Γ : Ctx} {A : Around} {targets : List Expr} {value : Expr} {pos p : Pos} {env : Env} {V : Value} {s S2 : Shared} {Q : Flow → Pos → Shared → Prop} {E : Value → Pos → Shared → Prop}
    (hs : swapsWithSole targets value pos.line env = pure false) (hw : swappedStores targets value env = pure none) (hG : Γ.In A)
    (hv : wpAny (model P w) A (eval value env) (fun v s1 => v = V ∧ s1 = S2) (fun _ _ => False) s)
    (h : ∀ p, wp (model P w) Γ (do assignStores env V none ((assignEach targets env).map (·.2)) : Sem Flow) Q E p S2) :
    wp (model P w) Γ (exec (.Assign targets value pos) env) Q E p s := by
  rw [arm_exec_Assign, hs, hw]
  rw [Sem.wp_bind']
  show wp (model P w) Γ (pure false >>= _) _ _ _ _
  rw [Sem.wp_bind', Sem.wp_pure']
  rw [if_neg (by simp), Sem.wp_bind']
  refine Sem.wp_mono (model P w) Γ _ (fun v p1 s1 h1 => ?_) (fun _ _ _ z => z.elim) _ s (hv Γ _ hG)
  obtain ⟨rfl, rfl⟩ := h1
  rw [Sem.wp_bind', Sem.wp_pure']
  exact h p1
end
end HdX
end
section
set_option Elab.async false
set_option linter.all false
set_option maxRecDepth 100000
set_option maxHeartbeats 0
namespace HdX
open PySem PySem.W PySem.Calls PyProof.Rows
open Sem (wp)
/-! ## pairs from the text -/
def litOf : Expr → Lit
  | .Constant (.str z) k p => ⟨z, k, p⟩
  | _ => ⟨Str.empty, 0, default⟩
def itOf : Expr → It
  | .Tuple es k p => .tup (es.map litOf) k p
  | e => .lit (litOf e)
def plOf : Option Expr → Expr → PL
  | some (.Tuple ks kk kp), .Tuple vs vk vp => ⟨ks.map litOf, kk, kp, vs.map itOf, vk, vp⟩
  | _, _ => ⟨[], 0, default, [], 0, default⟩
def It.fitsB : It → Bool
  | .lit _ => true
  | .tup ls _ _ => Nat.ble ls.length 16777216
theorem It.fitsB_ok : ∀ {i : It}, i.fitsB = true → i.fits
  | .lit _, _ => trivial
  | .tup ls _ _, h => by show ls.length ≤ sizeLine; rw [sizeLine_eq]; exact Nat.le_of_ble_eq_true h
def PL.fitsB (x : PL) : Bool := Nat.ble x.kl.length 16777216 && (x.vl.all It.fitsB && Nat.ble x.vl.length 16777216)
theorem PL.fitsB_ok {x : PL} (h : x.fitsB = true) : x.fits := by
  obtain ⟨h1, h2⟩ := Bool.and_eq_true_iff.mp h
  obtain ⟨h3, h4⟩ := Bool.and_eq_true_iff.mp h2
  refine ⟨by rw [sizeLine_eq]; exact Nat.le_of_ble_eq_true h1, fun i hi => It.fitsB_ok (List.all_eq_true.mp h3 i hi), by rw [sizeLine_eq]; exact Nat.le_of_ble_eq_true h4⟩
end HdX
namespace HdP
open PySem PySem.W PySem.Calls PyProof.Rows HdX HandSHeadRun
open Sem (wp)
abbrev P : Program := PySem.Challenge.pw_dayagreement_s01_answers
@[irreducible] def ss : List Stmt := P.main.body
def at29 : Nat := 30
@[irreducible] def la : List Stmt := ss.take at29
@[irreducible] def lb : List Stmt := ss.drop (at29 + 1)
def dictOf : Stmt → List (Option Expr) × List Expr × Pos × Pos × List Expr
  | .Assign ts (.Dict ks vs p) p2 => (ks, vs, p, p2, ts)
  | _ => ([], [], default, default, [])
@[irreducible] def st : Stmt := ss.getD at29 (.Pass ⟨0, 0, 0, 0⟩)
@[irreducible] def keys : List (Option Expr) := (dictOf st).1
@[irreducible] def values : List Expr := (dictOf st).2.1
@[irreducible] def posD : Pos := (dictOf st).2.2.1
@[irreducible] def posA : Pos := (dictOf st).2.2.2.1
@[irreducible] def targets : List Expr := (dictOf st).2.2.2.2
@[irreducible] def pls : List PL := (keys.zip values).map fun x => plOf x.1 x.2
@[irreducible] def l1 : List PL := pls.take 17
@[irreducible] def l2 : List PL := pls.drop 17
@[irreducible] def env : Env := { scope := P.main.scope, locals := mainNs, globals := mainNs, cells := [], code := .ref 13, frame := some 14 }
def q0 : Pos := default
theorem st_eq : st = .Assign targets (.Dict keys values posD) posA := by kernel_rfl
theorem ss_eq : ss = la ++ st :: lb := by kernel_rfl
theorem blk : blockStart ss env = pure () := by kernel_rfl
theorem shape : (evalEachOpt keys env).zip ((evalEach values env).map fun v => do let x ← v; standAt posD; pure x) = (l1.map (PL.sems env posD) ++ l2.map (PL.sems env posD)).map pairUp := by kernel_rfl
theorem len1 : l1.length = 17 := by decide +kernel
theorem len2 : 0 < l2.length := by decide +kernel
theorem len2' : l2.length ≤ 15 := by decide +kernel
theorem fits1 : ∀ x ∈ l1, x.fits := fun x hx => PL.fitsB_ok (List.all_eq_true.mp (by decide +kernel : l1.all PL.fitsB = true) x hx)
theorem fits2 : ∀ x ∈ l2, x.fits := fun x hx => PL.fitsB_ok (List.all_eq_true.mp (by decide +kernel : l2.all PL.fitsB = true) x hx)
theorem nodup : (l1.map PL.zs ++ l2.map PL.zs).Nodup := by decide +kernel
theorem swaps1 : swapsWithSole targets (.Dict keys values posD) posA.line env = pure false := by kernel_rfl
theorem swaps2 : swappedStores targets (.Dict keys values posD) env = pure none := by kernel_rfl
theorem room : (Aro ss env q0).units < cLine := by
  show (Gam ss env q0).units < cLine
  decide +kernel
end HdP
end
section
set_option Elab.async false
set_option linter.all false
set_option autoImplicit false
/-! the program's text, its tables of texts -/
namespace Bd
open PySem PySem.Spec PyProof.Rows L2
abbrev PP : Program := PySem.Challenge.pw_dayagreement_s01_answers
def top (i : Nat) : Stmt := PP.main.body.getD i (.Pass ⟨0, 0, 0, 0⟩)
abbrev LETT : Str := Str.ofString "abcdefghijklmnopqrstuvwxyz"
abbrev NOT_NAMES : List Str := ["nothing", "pay", "give", "at", "may", "if", "then", "otherwise", "times", "stop", "and", "or", "else", "max", "min", "not"]
abbrev COUNTS : List (Str × Nat) := [("number", 0), ("name", 0), ("negative", 1), ("+", 2), ("-", 2), ("*", 2), ("max", 2), ("min", 2), ("<", 2), ("=", 2), (">", 2), ("not", 1), ("&", 2), ("|", 2),
  ("nothing", 0), ("pay", 0), ("give", 1), ("at", 1), ("may", 1), ("if", 2), ("times", 1), ("stop", 1), ("and", 2), ("or", 2), ("else", 2)]
abbrev WITHD : List Str := ["number", "name", "pay", "at", "may", "if", "times", "stop"]
def sB (w : List Nat) : Str := ⟨w.toArray⟩
end Bd
end
section
set_option Elab.async false
set_option linter.all false
set_option maxRecDepth 100000
set_option maxHeartbeats 2000000
/-! The own error Fault with its field (the block of skel/42, for a class over Exception). -/
namespace PySem
namespace HandSPX
open Builtin Builtin.ObjectAttr
open PySem.W PySem.Calls PyProof.Rows
abbrev tailE : List Value := [.type "Exception", .type "BaseException", .type "object"]
theorem tailE_ne {l : List Value} (e : excTail tailE l = true) : l.isEmpty = false := by
  cases l with
  | nil => exact absurd e (by decide)
  | cons a r => rfl
section
variable {prog : Program} {w : World} {A : Around} {R : Result → Shared → Prop} {h0 : Heap} {gs : Array GenState} {dr : Drawn} {tk0 : Nat} {os : OsState}
/-- the first field of a fresh exception of an own class over Exception -/
theorem exc_osaE {K : W.Frag} {nam : Str} {tk : Tok} {u : Value} {x C : Addr} {fv : Array Value} {cd : ClassData}
    (X : K.In h0) (ex : h0.get? x = some { cls := .ref C, data := .fields fv }) (ecd : W.clsIn K C = some cd) (em : excTail tailE cd.mro = true)
    (eh : cd.hasDict = true) (en : W.findIn K (.ref C) nam = some none)
    (hq : ∀ h1 tk1 dx, (∀ b o, b ≠ x → h0.get? b = some o → h1.get? b = some o) → h0.objs.size ≤ dx → dx ≠ x →
      h1.get? x = some { cls := .ref C, dict := some dx, data := .fields fv } → h1.Ns1 dx (fun y => if y = nam then some u else none) → R (.ok (.ret .none)) ⟨h1, gs, dr, tk1, os⟩) :
    codeAny (model prog w) A (.call (.builtin "object.__setattr__") ⟨[.ref x, .str nam tk, u], []⟩) R ⟨h0, gs, dr, tk0, os⟩ := by
  have IA : W.InstAt h0 x { cls := .ref C, data := .fields fv } C none := ⟨ex, rfl, rfl, trivial⟩
  have ST := F.store_object
  have nemp := tailE_ne em
  have isob : cd.mro.contains (.type "object") = true := by
    rw [excTail_contains "object" _ em]
    decide +kernel
  have xne : x ≠ h0.objs.size := Nat.ne_of_lt (Heap.lt_size ex)
  have subO : W.Looks (model prog w) h0 (isInstance (.ref x) (.type "object")) true := by
    refine IA.type.andThen (W.looks_mroIn X ?_)
    unfold W.mroIn
    rw [ecd, Option.bind_some, if_neg (by rw [nemp]; decide), isob]
  refine codeAny_call_builtin ST.slot.plain ST.entry ?_
  refine @W.check_slot (model prog w) _ _ ⟨h0, gs, dr, tk0, os⟩ "object.__setattr__"
    "object" "__setattr__" (.ref x) [.str nam tk, u] [] _ ST.kind ST.split subO
    (ST.args (.ref x) (.str nam tk) u) ?_
  have lm : W.Looks (model prog w) h0 (mroOf (.ref C)) cd.mro := (W.looks_clsIn X ecd).andThen .now
  have l3 : W.Looks (model prog w) h0 (storeTaker? none) none := .now
  have lc : W.Looks (model prog w) h0 (classData C) cd := W.looks_clsIn X ecd
  rw [W.osa_eq, refuse_eq]
  refine wpAny_bind (wpAny_bind (IA.type.at (wpAny_bind (lm.at ?_))))
  rw [excTail_pass (.ref x) (F.store_Exception.passes _) _ em]
  refine wpAny_pure (wpAny_bind (IA.type.at (wpAny_bind ((W.looks_findIn X en).at (wpAny_bind (l3.at ?_))))))
  show wpAny _ _ (storeInOwnDict (.ref x) (.ref C) (.str nam tk) nam u false) _ _ _
  obtain ⟨c1, c2, c3, c4, c5, c6, c7, c8, c9, c10, c11⟩ := cd
  dsimp only at eh
  subst eh
  unfold storeInOwnDict ownDictForStores
  repeat (first
    | with_reducible refine store_in_new ?_ ?_
    | with_reducible refine wpAny_loadPart_at ex ?_
    | with_reducible refine lc.at ?_
    | wp_step)
  · exact ⟨_, #[], _,
      (Heap.get?_update_ne _ _ _ _ xne.symm).trans (Heap.get?_push_at rfl rfl),
      rfl, fun e he => absurd he (by simp), fun _ => rfl⟩
  · intro h1 tk1 hn1 hs1
    have ex1 : (h0.push { cls := .type "dict", data := .dict #[] }).get? x = some { cls := .ref C, data := .fields fv } := Heap.get?_push_of_some _ ex
    refine hq h1 tk1 h0.objs.size (fun b o hb ho => ?_) (Nat.le_refl _) xne.symm ?_ hn1
    · have q1 := hs1.2 b (Nat.ne_of_lt (Heap.lt_size ho))
      rw [q1, Heap.get?_update_ne _ _ _ _ hb]
      exact Heap.get?_push_of_some _ ho
    · rw [hs1.2 x xne]
      exact Heap.get?_update_self _ ex1 rfl
end
end HandSPX
end PySem
namespace PySem
namespace FaultX
open PySem.W PySem.Calls PyProof.Rows PySem.HandSPX
/-! ### the text of __init__ -/
def iA (p1 p2 : Pos) : Arguments := { posonlyargs := [], args := [{ arg := "self", annotation := none, pos := p1 }, { arg := "place", annotation := none, pos := p2 }], vararg := none, kwonlyargs := [], kw_defaults := [], kwarg := none, defaults := [] }
def iB (q1 q2 q3 q4 : Pos) : List Stmt := [.Assign [.Attribute (.Name "self" q1) "place" q2] (.Name "place" q3) q4]
def iS : Scope := { kind := .function, names := [(PySem.Str.ofString "self", .local), (PySem.Str.ofString "place", .local)], isGenerator := false, isCoroutine := false, more := [] }
/-- what the written part says of Low, at C, and of its __init__, at fI -/
structure FaultTxt (K : Frag) (mg : Str → Option Value) (C fI : Addr) : Prop where
  gC : mg "Fault" = some (.ref C)
  cls : ∃ nm q N bs bm sn sub ab col dd k0 k1 k2 k3 k5, K.lookup C = some (excClassObj nm q C N bs bm true sn sub ab col dd k0 k1 k2 k3 k5 "Exception.__new__") ∧ excTail tailE bm = true
  sa : findIn K (.ref C) "__setattr__" = some (some (.builtin "object.__setattr__"))
  ga : findIn K (.ref C) "__getattribute__" = some (some (.builtin "BaseException.__getattribute__"))
  gg : findIn K (.ref C) "__getattr__" = some none
  noN : findIn K (.ref C) "place" = some none
  iC : findIn K (.ref C) "__init__" = some (some (.ref fI))
  tC : typeIn K (.ref fI) = some (.type "function")
  kC : keepIn K (.ref C) = true
  exC : subIn K (.ref C) (.type "BaseException") = some true
  tyC : typeIn K (.ref C) = some (.type "type")
  hdC : hasDictIn K C = true
  te : exmOne K (.ref C) (.ref C) = some true
  fn : ∃ (oc : Value) (od : Option Addr) (kV doc pm : Value) (an : Option Addr) (cdv ct : Value) (osl : Array (Option Value)) (p1 p2 q1 q2 q3 q4 : Pos),
    K.lookup fI = some ⟨oc, od, .func (fnOf "__init__" "Fault.__init__" (iA p1 p2) (iB q1 q2 q3 q4) iS .none kV doc pm an cdv ct), osl⟩ ∧ codeIn K cdv "Fault.__init__" = true
theorem one_size (v : Value) : [v].length ≤ sizeLine := by
  rw [sizeLine_eq]
  exact (by decide : 1 ≤ 16777216)
theorem kept_but {K : Frag} {h h' : Heap} {x : Addr} (X : K.In h) (hx : K.lookup x = none) (k : ∀ b o, b ≠ x → h.get? b = some o → h'.get? b = some o) : K.In h' := fun a o e =>
  k a o (fun z => by rw [z, hx] at e; cases e) (X a o e)
theorem ldC {M : Model} {s : Shared} {name : Str} {scope : Scope} {L a : Addr} {cd : Value} {m : Str → Option Value} {x : Str} {pos : Pos} {v : Value} {Q : Value → Shared → Prop} {A : Around} {E : Value → Shared → Prop} (hn : s.heap.Ns L m) (hv : m x = some v) (h : Q v s)
    (hk : scope.kind = .function := by rfl) (hl : (envOfC name scope L a cd).kindOf x = some .local := by rfl) (hd : (x == ("__debug__" : Str)) = false := by decide) :
    wpAny M A (eval (.Name x pos) (envOfC name scope L a cd)) Q E s := wpAny_Name (wpAny_loadName_local hk hl hn hv h) hd
/-- what __init__ leaves of a fresh exception at x -/
structure InitEnd (h h' : Heap) (x C dx t1 : Addr) (v : Value) : Prop where
  keep : ∀ b o, b ≠ x → h.get? b = some o → h'.get? b = some o
  obj : h'.get? x = some { cls := .ref C, dict := some dx, data := .fields #[.ref t1, .none, .none, .none, .bool false, .none] }
  dbig : h.objs.size ≤ dx
  dne : dx ≠ x
  ns : h'.Ns1 dx (fun y => if y = "place" then some v else none)
/-- a made Low -/
structure OwnMade (h h' : Heap) (e C d : Addr) (v : Value) : Prop where
  keep : ∀ b o, h.get? b = some o → h'.get? b = some o
  new : h.objs.size ≤ e
  obj : ∃ oe vs, h'.get? e = some oe ∧ oe.cls = .ref C ∧ oe.dict = some d ∧ oe.data = .fields vs ∧ vs[1]? = some .none ∧ vs[2]? = some .none
  dbig : h.objs.size ≤ d
  dne : d ≠ e
  ns : h'.Ns1 d (fun y => if y = "place" then some v else none)
section
variable {prog : Program} {w : World} {A : Around} {E : Value → Shared → Prop} {R : Result → Shared → Prop} {s : Shared} {K : Frag} {mg : Str → Option Value} {C fI : Addr}
theorem low_init (T : FaultTxt K mg C fI) {x t0 : Addr} {v : Value} (X : K.In s.heap) (hlim : s.heap.NoLimit) (hx : s.heap.get? x = some (excO C t0)) (hnx : K.lookup x = none) (hroom : A.depth < recursionLimit)
    (hq : ∀ h' tk dx, InitEnd s.heap h' x C dx t0 v → R (.ok (.ret .none)) { s with heap := h', toks := tk }) :
    codeAny (model prog w) A (.call (.ref fI) ⟨[.ref x, v], []⟩) R s := by
  obtain ⟨oc, od, kV, doc, pm, an, cdv, ct, osl, p1, p2, q1, q2, q3, q4, ho, hcd⟩ := T.fn
  obtain ⟨nm, q, N, bs, bm, sn, sub, ab, col, dd, k0, k1, k2, k3, k5, hC, hbm⟩ := T.cls
  have hcl : clsIn K C = some { name := nm, bases := bs, mro := .ref C :: bm, ns := N, qualname := q, hasDict := true, slotNames := sn, subclasses := sub, abstract := ab, collection := col, hasDel := false } := by unfold clsIn; rw [hC] <;> rfl
  refine Att.call_fn (binds := [("self", .ref x), ("place", v)]) X hlim ho hcd hroom (BindsTo.of_eq (by first | rfl | with_unfolding_all rfl)) (by first | rfl | decide | with_unfolding_all rfl) (fun s₁ IC => ?_) rfl rfl rfl
  obtain ⟨h₁, tk₁, rfl⟩ := IC.toInCall.same
  have k : ∀ b o, s.heap.get? b = some o → h₁.get? b = some o := IC.toInCall.keep
  have hn := IC.toInCall.ns
  have hxL : s.heap.objs.size ≠ x := Nat.ne_of_gt (Heap.lt_size hx)
  have X₁ : K.In h₁ := X.keeps k
  have hx₁ := k _ _ hx
  -- self.by = by
  show wpAny _ _ (execs _ _) _ _ _
  refine wpAny_execs_cons (plainObj_wpAny_Assign_Attribute ?_)
  refine ldC (v := v) hn (by first | rfl | with_unfolding_all rfl | kernel_rfl) (ldC (v := .ref x) hn (by first | rfl | with_unfolding_all rfl | kernel_rfl) ?_)
  refine set_plain X₁ (ox := excO C t0) (od := none) ⟨hx₁, rfl, rfl, trivial⟩ T.sa ?_
  refine exc_osaE X₁ hx₁ hcl (show excTail tailE (.ref C :: bm) = true from hbm) rfl T.noN (fun h₃ tk₃ dx k₃ dn dne hx₃ hn₃ => ?_)
  show wpAny _ _ (execs _ _) _ _ _
  have z : s.heap.objs.size < h₁.objs.size := hn.lt
  exact wpAny_execs_nil (hq h₃ tk₃ dx ⟨fun b o hb e => k₃ b o hb (k b o e), hx₃, Nat.le_of_lt (Nat.lt_of_lt_of_le z dn), dne, hn₃⟩)
theorem low_made (T : FaultTxt K mg C fI) {v : Value} (X : K.In s.heap) (hlim : s.heap.NoLimit) (hroom : A.depth + 1 < recursionLimit)
    (hq : ∀ h' tk e d, OwnMade s.heap h' e C d v → R (.ok (.ret (.ref e))) { s with heap := h', toks := tk }) :
    codeAny (model prog w) A (.call (.ref C) ⟨[v], []⟩) R s := by
  obtain ⟨nm, q, N, bs, bm, sn, sub, ab, col, dd, k0, k1, k2, k3, k5, hC, hbm⟩ := T.cls
  obtain ⟨hp, g, dr, tk, os⟩ := s
  have k : ∀ b o, hp.get? b = some o → ((hp.push (kdv_tup [v])).push (excO C hp.objs.size)).get? b = some o := fun b o e => Heap.get?_push_of_some _ (Heap.get?_push_of_some _ e)
  have hget : ((hp.push (kdv_tup [v])).push (excO C hp.objs.size)).get? (hp.objs.size + 1) = some (excO C hp.objs.size) := by heap_get
  have hnx : K.lookup (hp.objs.size + 1) = none := by
    cases e : K.lookup (hp.objs.size + 1) with
    | none => rfl
    | some o =>
      have z : hp.get? (hp.objs.size + 1) = some o := X _ _ e
      exact absurd (Nat.lt_of_succ_lt (Heap.lt_size z)) (Nat.lt_irrefl _)
  refine call_own F.excBase_Exception (fun X => excTail_contains X bm hbm) (X _ _ hC) (looks_findIn X T.iC) (fun self => bind_fn X self T.tC) (one_size v) ?_
  refine low_init (s := ⟨(hp.push (kdv_tup [v])).push (excO C hp.objs.size), g, dr, tk, os⟩) T (X.keeps k) (hlim.keeps k) hget hnx ?_ fun h' tk' dx ⟨k', hx, dn, dne, hns⟩ => ?_
  · show A.depth + 1 < recursionLimit
    exact hroom
  · have old : ∀ b o, hp.get? b = some o → h'.get? b = some o := fun b o e => k' b o (Nat.ne_of_lt (Nat.lt_succ_of_lt (Heap.lt_size e))) (k b o e)
    have z : hp.objs.size + 1 + 1 ≤ dx := by
      first
        | (simpa only [Heap.size_push] using dn)
        | exact dn
        | (have q := dn; rw [Heap.size_push, Heap.size_push] at q; exact q)
    exact ⟨rfl, hq h' tk' (hp.objs.size + 1) dx ⟨old, Nat.le_succ _, ⟨_, _, hx, rfl, rfl, rfl, rfl, rfl⟩, Nat.le_trans (Nat.le_trans (Nat.le_succ _) (Nat.le_succ _)) z, dne, hns⟩⟩
end
end FaultX
end PySem
namespace L2
open PySem PySem.Spec PyProof.Rows
theorem relO_low {v : V} {v' : Value} (r : RelV v v') (f : Str) : RelO (List.lookup f [(("place" : Str), v)]) (if f = "place" then some v' else none) := by
  by_cases hw : f = "place"
  · subst hw
    rw [if_pos rfl]
    have q : List.lookup ("place" : Str) [(("place" : Str), v)] = some v := by simp [List.lookup]
    rw [q]
    exact r
  · rw [if_neg hw]
    have qw : (f == ("place" : Str)) = false := by simpa using hw
    have q2 : List.lookup f [(("place" : Str), v)] = none := by simp [List.lookup, qw]
    rw [q2]
    trivial
section
variable {X : Cx} {C fI : Addr}
/-- Low(e) -/
def tMkLow (C : Addr) (ta : TA) : St → Hp → XK → Prop := fun σ H Q => ta σ H fun vs H1 => ∃ v, vs = [v] ∧ ∀ d, H1 d = none → Q (.ref C) (some d) (upd H1 d (.xd [(("place" : Str), v)]))
theorem pmk_low {a : Expr} {ta : TA} {p pos : Pos} {k : Nat} (T : PySem.FaultX.FaultTxt X.K X.mg C fI) (hr : Room k X.A) (ha : PA X [a] ta) (hg : Gl X "Fault" := by rfl)
    (he : starEach (a :: []) X.env = (false, eval a X.env) :: starEach [] X.env := by rfl) (hpl : (backTo pos (starEach [] X.env)).any (·.1) = false := by rfl) :
    L2N.PMk X (.Call (.Name "Fault" p) [a] [] pos) (tMkLow C ta) := by
  intro pins s σ H Q I h
  refine wpAny_Call_Name_kw (ld_glob I hg T.gC ?_)
  refine PySem.W.callWith_K (h₀ := X.base) I.ok.mod.kin T.kC (thn (ha.run pos pins s σ H _ I h) fun us s1 hh => ?_) he hpl
  obtain ⟨vs, H1, I1, r1, v, ev, q1⟩ := hh
  subst ev
  refine ⟨I1.kIn, ?_⟩
  cases r1 with
  | cons rv rn =>
    rename_i v' us'
    cases rn
    show wpAny _ _ (call (.ref C) [v']) _ _ _
    have hlim := I1.nolimit
    obtain ⟨hp, g, dr, tk, os⟩ := s1
    refine wpAny_call (PySem.FaultX.low_made T I1.kIn hlim (by have := hr.dp; omega) fun h' tk' e d M => ?_)
    show L2N.MkP X pins σ Q (.ref e) ⟨h', g, dr, tk', os⟩
    obtain ⟨oe, fv, hoe, hc, hd, hdat, h1, h2⟩ := M.obj
    have hns := M.ns
    obtain ⟨G', g1, g2⟩ := restrict h' fun b => decide (b ≠ e)
    have gk : ∀ b, b ≠ e → G'.get? b = h'.get? b := fun b hb => g1 b (decide_eq_true hb)
    have ge : G'.get? e = none := g2 e (by simp)
    have old : ∀ b o, hp.get? b = some o → G'.get? b = some o := fun b o q => (gk b (Nat.ne_of_lt (Nat.lt_of_lt_of_le (Heap.lt_size q) M.new))).trans (M.keep b o q)
    have ob : ObjOk X.prog X.w (upd H1 d (.xd [(("place" : Str), v)])) G' d (.xd [(("place" : Str), v)]) :=
      ⟨_, hns.at (fun o q => (gk d M.dne).trans q), fun f => relO_low rv f⟩
    have J : Inv X pins σ (upd H1 d (.xd [(("place" : Str), v)])) ⟨G', g, dr, tk', os⟩ := I1.laid (t' := tk') old M.dbig ob
    refine ⟨e, oe, fv, ⟨G', g, dr, tk', os⟩, _, .ref C, some d, rfl, J, fun b o q => ?_, ge, hoe, ⟨hc, hd, fun vs' e' => by rw [hdat] at e'; cases e'; exact h2⟩, hdat, h1, ?_, rfl, I1.bare, raises_own T.exC T.tyC, q1 d (I1.hok.fresh M.dbig)⟩
    · by_cases hb : b = e
      · have q' : G'.get? b = some o := q
        rw [hb, ge] at q'; cases q'
      · exact (gk b hb).symm.trans q
    · rw [upd_ne (Ne.symm M.dne)]
      exact I1.hok.fresh M.new
/-- raise Low(e) -/
def tRaiseLow (C : Addr) (W : WX) (ta : TA) : TS := fun _ σ H => tMkLow C ta σ H fun cls d H' => W cls d σ H'
theorem ps_raiseLow {a : Expr} {ta : TA} {W : WX} {p pos pos2 : Pos} {k : Nat} (hc : X.calm = true) (T : PySem.FaultX.FaultTxt X.K X.mg C fI) (hr : Room k X.A) (tk : L2N.Takes X W) (ha : PA X [a] ta) (hg : Gl X "Fault" := by rfl)
    (he : starEach (a :: []) X.env = (false, eval a X.env) :: starEach [] X.env := by rfl) (hpl : (backTo pos (starEach [] X.env)).any (·.1) = false := by rfl) :
    PS X (.Raise (some (.Call (.Name "Fault" p) [a] [] pos)) none pos2) (tRaiseLow C W ta) := L2N.ps_raise hc tk (pmk_low T hr ha hg he hpl)
/-- low.by, low the exception that the suite holds (at a; its class cls, its dict d) -/
def tByLow (C : Addr) (a : Addr) (cls : Value) (d : Option Addr) (te : TE) : TE := fun σ H Q => te σ H fun x H1 => x = .ref a ∧ cls = .ref C ∧ ∃ (dd : Addr) (v : V), d = some dd ∧ H1 dd = some (.xd [(("place" : Str), v)]) ∧ Q v H1
theorem pe_byLow {a : Addr} {oe : Obj} {cls : Value} {d : Option Addr} {pn : List (Addr × Obj)} {e : Expr} {te : TE} {pos : Pos} (T : PySem.FaultX.FaultTxt X.K X.mg C fI) (hz : Zc cls d oe) (hf : ∃ vs, oe.data = .fields vs) (he : PE (X.suite a ((a, oe) :: pn)) e te)
    (hb : attributeBase e "place" X.env (eval e X.env) = eval e X.env := by rfl) :
    PE (X.suite a ((a, oe) :: pn)) (.Attribute e "place" pos) (tByLow C a cls d te) := by
  refine ⟨fun pins s σ H Q I h => ?_⟩
  refine attr_of hb (thn (he.run pins s σ H _ I h) fun u s1 hh => ?_)
  obtain ⟨x, H1, I1, rx, ex, ec, dd, v, ed, ea, q⟩ := hh
  subst ex
  obtain rfl : u = Value.ref a := rx
  subst ec
  subst ed
  obtain ⟨ha, _⟩ := I1.pin (a, oe) (List.mem_append_left _ List.mem_cons_self)
  obtain ⟨vs, hd⟩ := hf
  have hx : ObjOk X.prog X.w H1 s1.heap dd (.xd [(("place" : Str), v)]) := I1.hok dd _ ea
  obtain ⟨mA, hns, hr⟩ := hx
  obtain ⟨od, ho, hl⟩ := lookIn_ns hns
  have l : List.lookup ("place" : Str) [(("place" : Str), v)] = some v := by simp [List.lookup]
  obtain ⟨u, hu, ru⟩ := RelO.some_of (v := v) (o := mA "place") (by rw [← l]; exact hr "place")
  have J : PySem.W.InstAt s1.heap a oe C (some od) := ⟨ha, hz.1, by unfold PySem.W.notCls; rw [hd] <;> rfl, by rw [hz.2]; exact ho⟩
  exact HandSPX.exc_get I1.kIn J T.ga T.gg T.exC (PySem.W.findObj_own T.hdC T.noN rfl (by rw [hl, hu])) (handed_of ru) ⟨v, H1, I1.tok _, ru, q⟩
end
/-- as Fun.okX, for a def whose exceptions are to be handled by suites that call -/
theorem Fun.okXN {P : Program} {w : World} {K : PySem.W.Frag} {mg : Str → Option Value} {base : Heap} {x qual : Str} {st : Stmt} {f : Addr} {fd : FuncData} {N ps : List Str} {k : Nat} {sp : Sp} (F : Fun K x qual st f fd) (S : FnScope N ps (defScope st)) (len : ∀ vs H Q E, sp vs H Q E → vs.length = ps.length)
    (body : ∀ (cdv : Value) (A : Around) (outer : List Env) (s : Shared) (H : Hp) (vs : List V) (Q : VK) (E : XK), Room k (A.deeper (envOfC qual (defScope st) s.heap.objs.size f cdv)) → sp vs H Q E →
      ∃ t, PSs (cxOf (L2N.CX P w) P w K mg base N qual (defScope st) f cdv A outer s H E) (defBody st) t ∧ t { nx := fun _ H' => Q .non H', rt := Q } (start N vs) H) : FnOk P w K mg base (L2N.CX P w) (k + 1) f fd ps sp := by
  obtain ⟨oc, od, kV, doc, pm, an, cdv, ct, osl, rfl, lk, hcd⟩ := F.ex
  exact fn_of lk hcd S len fun A outer s H vs Q E hr hsp => body cdv A outer s H vs Q E hr hsp
/-- a def's promise that holds of a call within a suite, too -/
theorem Fun.okH {P : Program} {w : World} {K : PySem.W.Frag} {mg : Str → Option Value} {base : Heap} {CX : CXT} {x qual : Str} {st : Stmt} {f : Addr} {fd : FuncData} {N ps : List Str} {k : Nat} {sp : Sp} (F : Fun K x qual st f fd) (S : FnScope N ps (defScope st)) (len : ∀ vs H Q E, sp vs H Q E → vs.length = ps.length)
    (body : ∀ (cdv : Value) (A : Around) (outer : List Env) (s : Shared) (H : Hp) (vs : List V) (Q : VK) (E : XK) (p : Addr × Obj), L2H.Hot1 A p → L2H.RoomH k (A.deeper (envOfC qual (defScope st) s.heap.objs.size f cdv)) → sp vs H Q E →
      ∃ t, PSs (L2H.cxH CX P w K mg base N qual (defScope st) f cdv A outer s H E p) (defBody st) t ∧ t { nx := fun _ H' => Q .non H', rt := Q } (start N vs) H) : L2H.FnH P w K mg base CX (k + 1) f fd ps sp := by
  obtain ⟨oc, od, kV, doc, pm, an, cdv, ct, osl, rfl, lk, hcd⟩ := F.ex
  exact L2H.fn_ofH lk hcd S len fun A outer s H vs Q E p ht hr hsp => body cdv A outer s H vs Q E p ht hr hsp
end L2
end
section
set_option Elab.async false
set_option linter.all false
set_option maxRecDepth 100000
set_option maxHeartbeats 4000000
set_option autoImplicit false
/-! what is read off the top, and what it is to be -/
namespace Hk
open PySem PySem.Spec PyProof.Rows L2 He Bd
open PySem.HandSPX
def ktuB (K : PySem.W.Frag) (a : Addr) (vs : List V) : Bool := match K.lookup a with
  | some ⟨.type c, _, .seq its _, _⟩ => decide (c = "tuple") && (decide (its.size ≤ sizeLine) && relAll vs its.toList)
  | _ => false
def goalB (K : PySem.W.Frag) : Mx.G → Value → Bool
  | .sym z, u => relB (.str (sB z)) u
  | .mk w, u => match u with
    | .ref a => ktuB K a [.str "make", .str (sB w)]
    | _ => false
def goalsB (K : PySem.W.Frag) : List Mx.G → List Value → Bool
  | [], [] => true
  | g :: l, u :: us => goalB K g u && goalsB K l us
  | _, _ => false
def ruleB (K : PySem.W.Frag) (l : List Mx.G) (u : Value) : Bool := match u with
  | .ref a => (match K.lookup a with
    | some ⟨.type c, _, .seq its _, _⟩ => decide (c = "tuple") && (decide (its.size ≤ sizeLine) && goalsB K l its.toList)
    | _ => false)
  | _ => false
def entsOf (K : PySem.W.Frag) (a : Addr) : List DictEntry := match K.lookup a with
  | some ⟨_, _, .dict es _, _⟩ => es.toList
  | _ => []
def isDict (K : PySem.W.Frag) (a : Addr) : Bool := match K.lookup a with
  | some ⟨.type c, none, .dict _ _, sl⟩ => decide (c = "dict") && (sl.isEmpty && !(a == sysModules))
  | _ => false
def keyM (e : DictEntry) : Option (Key × Int) := match e.key with
  | .int i _ => some (.inl i, e.hash)
  | .str x _ => some (.inr x, e.hash)
  | _ => none
def keysM (w : World) (ks : List Key) : List (Option (Key × Int)) := ks.map fun k => some (k, keyH w k)
def signKs : List Key := Co01.SIGNS.map fun (c : Nat) => (Sum.inl (c : Int) : Key)
def signB : List Nat → List Value → Bool
  | [], [] => true
  | c :: l, u :: us => relB (.str (sB [c])) u && signB l us
  | _, _ => false
def ruleKs : List Key := Mx.RULES.map fun x => (Sum.inr (sB x.1) : Key)
def rulesB (K : PySem.W.Frag) : List (Co01.Bytes × List Mx.G) → List Value → Bool
  | [], [] => true
  | x :: l, u :: us => ruleB K x.2 u && rulesB K l us
  | _, _ => false
def textsOf : List Value → Option (List Str)
  | [] => some []
  | u :: us => match u with
    | .str x _ => (textsOf us).map (x :: ·)
    | _ => none
def keyT (K : PySem.W.Frag) (e : DictEntry) : Option (Int × List Str) := match e.key with
  | .ref a => (match K.lookup a with
    | some ⟨.type c, _, .seq its _, _⟩ => (match decide (c = "tuple") with
      | true => (textsOf its.toList).map fun zs => (e.hash, zs)
      | false => none)
    | _ => none)
  | _ => none
def tokKs : List (List Str) := Mx.BYTOK.map fun x => [sB x.1.1, sB x.1.2]
def keysT (P : Program) (w : World) (zs : List (List Str)) : List (Option (Int × List Str)) := zs.map fun z => some ((HdX.kd P w).hash z, z)
def tokB (K : PySem.W.Frag) : List ((Co01.Bytes × Co01.Bytes) × List Mx.G) → List Value → Bool
  | [], [] => true
  | x :: l, u :: us => ruleB K x.2 u && tokB K l us
  | _, _ => false
def countVs : List (Str × Dv) := COUNTS.map fun x => (x.1, .int x.2)
def closKs : List Str := ["number", "name", "negative", "max", "min", "*", "+", "-", "<", "=", ">", "not", "&", "|", "nothing", "pay", "give", "at", "may", "if", "times", "stop", "and", "or", "else"]
def closVs : List (Str × Dv) := Mx.WORDSW.map fun x => (sB x, .int (Mx.closeB x : Nat))
def kidB (K : PySem.W.Frag) (a : Addr) : Bool := Mx.WORDSW.all fun x => match PySem.W.nsIn K a (sB x) with
  | some (some (.ref b)) => ktuB K b ((Mx.kids x).map fun (n : Nat) => V.int n)
  | _ => false
def fltB (K : PySem.W.Frag) (C : Addr) : Bool := match K.lookup C with
  | some ⟨.type "type", _, .cls cd, sl⟩ => (match cd.mro, sl.toList with
    | .ref C' :: bm, [_, _, _, _, some (.builtin n), _] => C' == C && n == "Exception.__new__" && !cd.hasDel && cd.hasDict && PySem.W.excTail tailE bm
    | _, _ => false)
  | _ => false
def fltAll (K : PySem.W.Frag) (C f : Addr) : Bool := fltB K C && (eqO (PySem.W.findIn K (.ref C) "__setattr__") (some (some (.builtin "object.__setattr__"))) && (eqO (PySem.W.findIn K (.ref C) "__getattribute__") (some (some (.builtin "BaseException.__getattribute__"))) &&
  (eqO (PySem.W.findIn K (.ref C) "__getattr__") (some none) && (eqO (PySem.W.findIn K (.ref C) "place") (some none) && (eqO (PySem.W.findIn K (.ref C) "__init__") (some (some (.ref f))) && (decide (PySem.W.typeIn K (.ref f) = some (.type "function")) && (PySem.W.keepIn K (.ref C) &&
  (decide (PySem.W.subIn K (.ref C) (.type "BaseException") = some true) && (decide (PySem.W.typeIn K (.ref C) = some (.type "type")) && (PySem.W.hasDictIn K C && decide (PySem.W.exmOne K (.ref C) (.ref C) = some true)))))))))))
def dF (x : Str) (i : Nat) : DefD := ⟨(x, none), x, x, L2.defArgs (Bd.top i), L2.defBody (Bd.top i), L2.defScope (Bd.top i), [], []⟩
def dM (C m q : Str) (i j : Nat) : DefD := ⟨(C, some m), m, q, L2.defArgs (L2.inClass (Bd.top i) j), L2.defBody (L2.inClass (Bd.top i) j), L2.defScope (L2.inClass (Bd.top i) j), [], []⟩
def fn : List He.DefD := [dF "nothing" 5, dF "number_steps" 6, dF "joined" 7, dF "taken_parts" 8, dF "part_start" 9, dF "reckoned" 11, dF "combined" 12, dF "compared" 13, dF "settled" 14, dF "gone_through" 19, dF "step_outcome" 20, dF "times_outcome" 21, dF "both_left" 22, dF "left_within" 23, dF "waiting_in" 24, dF "waiting_at" 25, dF "exchanged" 26, dF "choice_made" 27, dF "begun" 28, dF "agreement_of" 33, dF "put_goals" 34, dF "make_step" 35, dF "tokens_of" 46, dF "is_letter" 47, dF "is_digit" 48, dF "word_end" 49, dF "number_end" 50, dF "word_token" 51, dF "number_token" 52, dF "names_of" 53, dF "written" 57, dF "within_brackets" 58, dF "step_text" 59, dF "text_around_one" 60, dF "text_around_two" 61, dF "refusal" 75, dF "choice_waits" 76, dF "may_at" 77, dF "names_told" 78, dF "text_told" 79, dF "answers" 89, dF "handed_over" 90, dF "counted" 91, dF "answer_to" 92, dM "Fault" "__init__" "Fault.__init__" 1 0, dM "Outcome" "__init__" "Outcome.__init__" 18 0, dM "Standing" "__init__" "Standing.__init__" 73 0, dM "Line" "__init__" "Line.__init__" 74 0, dM "Line" "take_up" "Line.take_up" 74 1, dM "Line" "start_day" "Line.start_day" 74 2, dM "Line" "waits" "Line.waits" 74 3, dM "Line" "choose" "Line.choose" 74 4, dM "Line" "begin" "Line.begin" 74 5, dM "Line" "tell_left" "Line.tell_left" 74 6, dM "Line" "tell_paid" "Line.tell_paid" 74 7, dM "Line" "undo" "Line.undo" 74 8, dM "Line" "refused_within_a_day" "Line.refused_within_a_day" 74 9, dM "Line" "refused_of_one" "Line.refused_of_one" 74 10, dM "Line" "place_of" "Line.place_of" 74 11, dM "Line" "settle" "Line.settle" 74 12, dM "Line" "move_on" "Line.move_on" 74 13]
def fa : List He.Fa := [.glo "nothing", .glo "number_steps", .glo "joined", .glo "taken_parts", .glo "part_start", .glo "reckoned", .glo "combined", .glo "compared", .glo "settled", .glo "gone_through", .glo "step_outcome", .glo "times_outcome", .glo "both_left", .glo "left_within", .glo "waiting_in", .glo "waiting_at", .glo "exchanged", .glo "choice_made", .glo "begun", .glo "agreement_of", .glo "put_goals", .glo "make_step", .glo "tokens_of", .glo "is_letter", .glo "is_digit", .glo "word_end", .glo "number_end", .glo "word_token", .glo "number_token", .glo "names_of", .glo "written", .glo "within_brackets", .glo "step_text", .glo "text_around_one", .glo "text_around_two", .glo "refusal", .glo "choice_waits", .glo "may_at", .glo "names_told", .glo "text_told", .glo "answers", .glo "handed_over", .glo "counted", .glo "answer_to", .glo "Fault", .glo "Outcome", .glo "Standing", .glo "Line", .glo "PART_COUNTS", .glo "SIGNS", .glo "RULES", .glo "RULES_BY_TOKEN", .glo "WITH_DETAIL", .glo "NO_NAMES", .glo "CLOSENESS", .glo "PARTS_CLOSENESS", .free "len", .free "range", .free "max", .free "min", .free "enumerate", .free "zip", .free "reversed", .free "isinstance", .free "tuple", .free "str", .free "dict", .free "ord", .int "HOLDER" 0, .int "OTHER_SIDE" 1, .int "FIRST_LETTER" 97, .int "FIRST_DIGIT" 48, .int "BLANK" 32, .int "LONGEST_WORD" 8, .int "LONGEST_NUMBER" 7, .int "MOST_NAMES" 4, .int "MOST_TAKEN_BACK" 32, .int "DOES_NOT_FIT" 1, .int "NONE_WAITS_THERE" 2, .int "NOT_OF_THAT_KIND" 3, .int "NO_DAY" 4, .int "CHOICE_WAITS" 6, .int "NOTHING_TO_TAKE_BACK" 7, .int "NO_AGREEMENT" 9, .int "FAULT" 10, .int "OPEN_CALL" 0, .int "DAY_CALL" 1, .int "WAITS_CALL" 2, .int "CHOOSE_CALL" 3, .int "BEGIN_CALL" 4, .int "LEFT_CALL" 5, .int "PAID_CALL" 6, .int "UNDO_CALL" 7, .str "LETTERS" Bd.LETT, .str "LONG_WORD" "otherwise", .cls "Outcome", .cls "Standing", .cls "Line", .mkr "Outcome", .mkr "Standing", .mkr "Line", .noat "Outcome" "whole", .noat "Outcome" "left", .noat "Outcome" "paid", .noat "Standing" "agreement", .noat "Standing" "next_day", .noat "Standing" "seen", .noat "Standing" "payments", .noat "Line" "now", .noat "Line" "earlier", .noat "Line" "names", .meth "Line" "take_up", .meth "Line" "start_day", .meth "Line" "waits", .meth "Line" "choose", .meth "Line" "begin", .meth "Line" "tell_left", .meth "Line" "tell_paid", .meth "Line" "undo", .meth "Line" "refused_within_a_day", .meth "Line" "refused_of_one", .meth "Line" "place_of", .meth "Line" "settle", .meth "Line" "move_on"]
def ex (K : PySem.W.Frag) : Bool := fltAll K (ga K "Fault") (ma K (ga K "Fault") "__init__") && (tupB K "WITH_DETAIL" (WITHD.map Dv.str) && (tupB K "NO_NAMES" (NOT_NAMES.map Dv.str) && (valsB K (ga K "PART_COUNTS") countVs && (valsB K (ga K "CLOSENESS") closVs && (kidB K (ga K "PARTS_CLOSENESS") &&
  (isDict K (ga K "SIGNS") && (signB Co01.SIGNS ((entsOf K (ga K "SIGNS")).map (·.val)) && (isDict K (ga K "RULES") && (rulesB K Mx.RULES ((entsOf K (ga K "RULES")).map (·.val)) && (isDict K (ga K "RULES_BY_TOKEN") && tokB K Mx.BYTOK ((entsOf K (ga K "RULES_BY_TOKEN")).map (·.val))))))))))))
abbrev AlM : Type := AlD × Bool × List (Option (List (Option (Str × Int)))) × List (Option (Key × Int)) × List (Option (Key × Int)) × List (Option (Int × List Str))
def obsM (K : PySem.W.Frag) : AlM := (obsD fa fn K, ex K, [dicW K (ga K "PART_COUNTS"), dicW K (ga K "CLOSENESS"), dicW K (ga K "PARTS_CLOSENESS")], (entsOf K (ga K "SIGNS")).map keyM, (entsOf K (ga K "RULES")).map keyM, (entsOf K (ga K "RULES_BY_TOKEN")).map (keyT K))
def valM (w : World) : AlM := (valD fn, true, [some (keysIn w.params (COUNTS.map (·.1))), some (keysIn w.params closKs), some (keysIn w.params closKs)], keysM w signKs, keysM w ruleKs, keysT Bd.PP w tokKs)
/-- the objects that are reached in n steps -/
def stepR (g : Addr → Option Obj) (as : List Addr) : List Addr := as.flatMap fun a => match g a with
  | some o => refsD o ++ (match o.data with
    | .dict es _ => es.toList.flatMap fun e => refV e.key
    | _ => [])
  | none => []
def levR (g : Addr → Option Obj) : Nat → List Addr → List Addr
  | 0, l => l
  | n + 1, l => l ++ levR g n (stepR g l)
def frM (g : Addr → Option Obj) : PySem.W.Frag := frG g (levR g 4 [mainGlobals])
def hookM : PySem.W.Hook where
  α := AlM
  obs := fun s => obsM (frM s.heap.get?)
  val := fun w => valM w
  says := fun w h => ∃ K : PySem.W.Frag, K.In h ∧ obsM K = valM w
  of := fun _ _ e => ⟨_, frG_in, e⟩
  keeps := fun _ _ _ ⟨K, hK, c⟩ k => ⟨K, PySem.W.Frag.In.keeps hK k, c⟩
def obsMG (g : Addr → Option Obj) : AlM := obsM (frM g)
theorem obsMG_eq {g : Addr → Option Obj} {s : Shared} (h : ∀ a, g a = s.heap.get? a) : obsMG g = hookM.obs s := by
  have e : g = s.heap.get? := funext h
  rw [e] <;> rfl
end Hk
end
section
set_option Elab.async false
set_option linter.all false
set_option maxRecDepth 100000
set_option maxHeartbeats 0
namespace HdP
open PySem PySem.W PySem.Calls PyProof.Rows HdX HandSHeadRun
open Sem (wp)
noncomputable def stQ (w : World) : SharedT → Thread → Option (SharedT × Thread) := stepQ (denQ tabQ) P w
@[irreducible] noncomputable def b0 (w : World) : BT × Nat := match putAll (boot_heap w.params).objs.toList .nil 0 with
  | some r => r
  | none => (.nil, 0)
@[irreducible] noncomputable def S0T (w : World) (os : OsState) : SharedT := bootT w os (b0 w)
@[irreducible] noncomputable def SbT (w : World) (os : OsState) : SharedT := match stepsK (stQ w) (denQ tabQ) 12 (S0T w os) (topStub P) with
  | some (s, _) => s
  | none => S0T w os
noncomputable def body (x : Sem Flow) (p : Pos) : Thread := ⟨x >>= fun f => pure (.done f), .body ss env, p, [topFrame q0]⟩
noncomputable def goQ (w : World) (n : Nat) (s : SharedT) (x : Sem Flow) (p : Pos) : Option (SharedT × Flow) := goK (stQ w) (denQ tabQ) 1 n s (body x p)
@[irreducible] noncomputable def S1T (w : World) (os : OsState) : SharedT := match goQ w 3000 (SbT w os) (execs la env) q0 with
  | some (s, _) => s
  | none => S0T w os
abbrev wf (w : World) (b : Bool) : World := w.withFollow "special-get-raises" b
@[irreducible] noncomputable def S2T (w : World) (os : OsState) : SharedT := match dispT P w l1 l2 (S1T w os) with
  | some s => s
  | none => S0T w os
@[irreducible] def stores : List (Value → Sem Unit) := (assignEach targets env).map (·.2)
@[irreducible] noncomputable def S2bT (w : World) (os : OsState) : SharedT := match goQ w 300 (S2T w os) (assignStores env (.ref (S1T w os).n) none stores) q0 with
  | some (s, _) => s
  | none => S0T w os
@[irreducible] noncomputable def S3T (w : World) (os : OsState) : SharedT := match goQ w 6000 (S2bT w os) (execs lb env) q0 with
  | some (s, _) => s
  | none => S0T w os
def l1n : List PySem.Str := ["Fault", "UnknownCall", "PART_COUNTS", "nothing", "number_steps", "joined", "taken_parts", "part_start", "reckoned", "combined", "compared", "settled", "HOLDER", "OTHER_SIDE", "Outcome", "gone_through", "step_outcome", "times_outcome", "both_left", "left_within", "waiting_in", "waiting_at", "exchanged", "choice_made", "begun", "RULES_BY_TOKEN", "RULES", "WITH_DETAIL", "agreement_of", "put_goals"]
def l2n : List PySem.Str := ["make_step", "LETTERS", "FIRST_LETTER", "FIRST_DIGIT", "BLANK", "SIGNS", "NO_NAMES", "LONGEST_WORD", "LONG_WORD", "LONGEST_NUMBER", "tokens_of", "is_letter", "is_digit", "word_end", "number_end", "word_token", "number_token", "names_of", "CLOSENESS", "PARTS_CLOSENESS", "written", "within_brackets", "step_text", "text_around_one", "text_around_two", "MOST_NAMES", "MOST_TAKEN_BACK", "DOES_NOT_FIT", "NONE_WAITS_THERE", "NOT_OF_THAT_KIND"]
def l3n : List PySem.Str := ["NO_DAY", "CHOICE_WAITS", "NOTHING_TO_TAKE_BACK", "NO_AGREEMENT", "FAULT", "Standing", "Line", "refusal", "choice_waits", "may_at", "names_told", "text_told", "OPEN_CALL", "DAY_CALL", "WAITS_CALL", "CHOOSE_CALL", "BEGIN_CALL", "LEFT_CALL", "PAID_CALL", "UNDO_CALL", "handed_over", "counted", "answer_to"]
def loose : List PySem.Str := l1n ++ l2n ++ l3n
abbrev qv : Program := PySem.W.view P [89]
def frame (s : SharedT) : List (Option (Option Obj)) := (List.range 11).map fun b => if b == mainNs || b == cStatics then none else some (getT s b)
abbrev hk : PySem.W.Hook := Hk.hookM
def ob (s : PySem.W.SharedT) : Hk.AlM := Hk.obsMG (HandSHeadRun.getT s)
def obFa (s : PySem.W.SharedT) : Bool := Hk.fa.all fun f => f.ok (Hk.frM (HandSHeadRun.getT s))
theorem boot_eq (w : World) : putAll (boot_heap w.params).objs.toList .nil 0 = some (b0 w) := by kernel_rfl
theorem e1 (w : World) (os : OsState) : stepsK (stQ w) (denQ tabQ) 12 (S0T w os) (topStub P) = some (SbT w os, ⟨denQ tabQ (.body ss env), .body ss env, q0, [topFrame q0]⟩) := by kernel_rfl
theorem eXf (w : World) (os : OsState) (p : Pos) : (goQ (wf w false) 3000 (SbT (wf w false) os) (execs la env) p, Nat.blt 1 (S1T (wf w false) os).n, dispT P (wf w false) l1 l2 (S1T (wf w false) os), goQ (wf w false) 300 (S2T (wf w false) os) (assignStores env (.ref (S1T (wf w false) os).n) none stores) p, goQ (wf w false) 6000 (S2bT (wf w false) os) (execs lb env) p, looksF P (boot_heap (wf w false).params) (S3T (wf w false) os).abs, seenQ qv loose (importedModules P.main.body) (HdX.Xt qv) (S3T (wf w false) os).abs, (S3T (wf w false) os).gens, (S3T (wf w false) os).life, (S3T (wf w false) os).os, frame (S3T (wf w false) os), obFa (S3T (wf w false) os)) = (some (S1T (wf w false) os, .next), true, some (S2T (wf w false) os), some (S2bT (wf w false) os, .next), some (S3T (wf w false) os, .next), true, openGood qv loose, #[], (boot_heap (wf w false).params).life, os, frame (S0T (wf w false) os), true) := by kernel_rfl
theorem eXt (w : World) (os : OsState) (p : Pos) : (goQ (wf w true) 3000 (SbT (wf w true) os) (execs la env) p, Nat.blt 1 (S1T (wf w true) os).n, dispT P (wf w true) l1 l2 (S1T (wf w true) os), goQ (wf w true) 300 (S2T (wf w true) os) (assignStores env (.ref (S1T (wf w true) os).n) none stores) p, goQ (wf w true) 6000 (S2bT (wf w true) os) (execs lb env) p, looksF P (boot_heap (wf w true).params) (S3T (wf w true) os).abs, seenQ qv loose (importedModules P.main.body) (HdX.Xt qv) (S3T (wf w true) os).abs, (S3T (wf w true) os).gens, (S3T (wf w true) os).life, (S3T (wf w true) os).os, frame (S3T (wf w true) os), obFa (S3T (wf w true) os)) = (some (S1T (wf w true) os, .next), true, some (S2T (wf w true) os), some (S2bT (wf w true) os, .next), some (S3T (wf w true) os, .next), true, openGood qv loose, #[], (boot_heap (wf w true).params).life, os, frame (S0T (wf w true) os), true) := by kernel_rfl
theorem eX (w : World) (os : OsState) (p : Pos) (b : Bool) : (goQ (wf w b) 3000 (SbT (wf w b) os) (execs la env) p, Nat.blt 1 (S1T (wf w b) os).n, dispT P (wf w b) l1 l2 (S1T (wf w b) os), goQ (wf w b) 300 (S2T (wf w b) os) (assignStores env (.ref (S1T (wf w b) os).n) none stores) p, goQ (wf w b) 6000 (S2bT (wf w b) os) (execs lb env) p, looksF P (boot_heap (wf w b).params) (S3T (wf w b) os).abs, seenQ qv loose (importedModules P.main.body) (HdX.Xt qv) (S3T (wf w b) os).abs, (S3T (wf w b) os).gens, (S3T (wf w b) os).life, (S3T (wf w b) os).os, frame (S3T (wf w b) os), obFa (S3T (wf w b) os)) = (some (S1T (wf w b) os, .next), true, some (S2T (wf w b) os), some (S2bT (wf w b) os, .next), some (S3T (wf w b) os, .next), true, openGood qv loose, #[], (boot_heap (wf w b).params).life, os, frame (S0T (wf w b) os), true) := match b with
  | false => eXf w os p
  | true => eXt w os p
theorem eA (w : World) (os : OsState) (p : Pos) (b : Bool) : goQ (wf w b) 3000 (SbT (wf w b) os) (execs la env) p = some (S1T (wf w b) os, .next) := congrArg (fun x => x.1) (eX w os p b)
theorem eN (w : World) (os : OsState) (b : Bool) : Nat.blt 1 (S1T (wf w b) os).n = true := congrArg (fun x => x.2.1) (eX w os q0 b)
theorem eD (w : World) (os : OsState) (b : Bool) : dispT P (wf w b) l1 l2 (S1T (wf w b) os) = some (S2T (wf w b) os) := congrArg (fun x => x.2.2.1) (eX w os q0 b)
theorem eS (w : World) (os : OsState) (p : Pos) (b : Bool) : goQ (wf w b) 300 (S2T (wf w b) os) (assignStores env (.ref (S1T (wf w b) os).n) none stores) p = some (S2bT (wf w b) os, .next) := congrArg (fun x => x.2.2.2.1) (eX w os p b)
theorem eB (w : World) (os : OsState) (p : Pos) (b : Bool) : goQ (wf w b) 6000 (S2bT (wf w b) os) (execs lb env) p = some (S3T (wf w b) os, .next) := congrArg (fun x => x.2.2.2.2.1) (eX w os p b)
theorem eL (w : World) (os : OsState) (b : Bool) : looksF P (boot_heap (wf w b).params) (S3T (wf w b) os).abs = true := congrArg (fun x => x.2.2.2.2.2.1) (eX w os q0 b)
theorem eV (w : World) (os : OsState) (b : Bool) : seenQ qv loose (importedModules P.main.body) (HdX.Xt qv) (S3T (wf w b) os).abs = openGood qv loose := congrArg (fun x => x.2.2.2.2.2.2.1) (eX w os q0 b)
theorem eG (w : World) (os : OsState) (b : Bool) : (S3T (wf w b) os).gens = #[] := congrArg (fun x => x.2.2.2.2.2.2.2.1) (eX w os q0 b)
theorem eI (w : World) (os : OsState) (b : Bool) : (S3T (wf w b) os).life = (boot_heap (wf w b).params).life := congrArg (fun x => x.2.2.2.2.2.2.2.2.1) (eX w os q0 b)
theorem eU (w : World) (os : OsState) (b : Bool) : (S3T (wf w b) os).os = os := congrArg (fun x => x.2.2.2.2.2.2.2.2.2.1) (eX w os q0 b)
theorem eK (w : World) (os : OsState) (b : Bool) : frame (S3T (wf w b) os) = frame (S0T (wf w b) os) := congrArg (fun x => x.2.2.2.2.2.2.2.2.2.2.1) (eX w os q0 b)
theorem eFa (w : World) (os : OsState) (b : Bool) : obFa (S3T (wf w b) os) = true := congrArg (fun x => x.2.2.2.2.2.2.2.2.2.2.2) (eX w os q0 b)
theorem size0 (w : World) : (boot_heap w.params).objs.size = 11 := by kernel_rfl
end HdP
end
section
set_option Elab.async false
set_option linter.all false
set_option maxRecDepth 100000
set_option maxHeartbeats 0
namespace HdP
open PySem PySem.W PySem.Calls PyProof.Rows HdX HandSHeadRun
open Sem (wp)
abbrev R : PySem.W.OpenSpec := PySem.Challenge.rw_dayagreement_s01_answers
theorem eOf (w : World) (os : OsState) : ((Hk.fn.all fun d => d.ok (Hk.frM (HandSHeadRun.getT (S3T (wf w false) os)))), (Hk.fn.map fun d => He.fnW (Hk.frM (HandSHeadRun.getT (S3T (wf w false) os))) d.at_), (ob (S3T (wf w false) os)).2) = (true, Hk.fn.map He.DefD.val, (hk.val (wf w false)).2) := by kernel_rfl
theorem eOt (w : World) (os : OsState) : ((Hk.fn.all fun d => d.ok (Hk.frM (HandSHeadRun.getT (S3T (wf w true) os)))), (Hk.fn.map fun d => He.fnW (Hk.frM (HandSHeadRun.getT (S3T (wf w true) os))) d.at_), (ob (S3T (wf w true) os)).2) = (true, Hk.fn.map He.DefD.val, (hk.val (wf w true)).2) := by kernel_rfl
theorem ob_parts (s : SharedT) : ob s = ((obFa s && Hk.fn.all fun d => d.ok (Hk.frM (HandSHeadRun.getT s)), Hk.fn.map fun d => He.fnW (Hk.frM (HandSHeadRun.getT s)) d.at_), (ob s).2) := rfl
theorem val_parts (w : World) : hk.val w = ((true, Hk.fn.map He.DefD.val), (hk.val w).2) := rfl
theorem eO (w : World) (os : OsState) (b : Bool) : ob (S3T (wf w b) os) = hk.val (wf w b) := by
  have e : ((Hk.fn.all fun d => d.ok (Hk.frM (HandSHeadRun.getT (S3T (wf w b) os)))), (Hk.fn.map fun d => He.fnW (Hk.frM (HandSHeadRun.getT (S3T (wf w b) os))) d.at_), (ob (S3T (wf w b) os)).2) = (true, Hk.fn.map He.DefD.val, (hk.val (wf w b)).2) := match b with
    | false => eOf w os
    | true => eOt w os
  obtain ⟨h1, h2⟩ := Prod.mk.inj e
  obtain ⟨h2, h3⟩ := Prod.mk.inj h2
  rw [ob_parts, val_parts, eFa, h1, h2, h3]
  exact congrArg (fun x => ((x, Hk.fn.map He.DefD.val), (hk.val (wf w b)).2)) (Bool.and_self true)
end HdP
end
section
set_option Elab.async false
set_option linter.all false
set_option maxRecDepth 100000
set_option maxHeartbeats 400000
namespace HdP
open PySem PySem.W PySem.Calls PyProof.Rows HdX HandSHeadRun
open Sem (wp)
theorem ob_eq (s : PySem.W.SharedT) : ob s = hk.obs s.abs := Hk.obsMG_eq (HandSHeadRun.getT_eq s)
theorem stQ_eq (w : World) : stepT (denote table) P w = stQ w := by
  unfold stQ
  rw [table_eq_tree, stepQ_eq, denQ_eq, tabQ_eq]
theorem den_eq : denote table = denQ tabQ := by rw [table_eq_tree, denQ_eq, tabQ_eq]
theorem S0T_abs (w : World) (os : OsState) : (S0T w os).abs = S0 w os := by
  have e := putAll_heap (t := (b0 w).1) (n := (b0 w).2) (boot_eq w)
  unfold S0T
  show (⟨absHeap (b0 w).1 (b0 w).2 (boot_heap w.params).life, #[], boot_drawn, boot_toks, os⟩ : Shared) = _
  rw [e]
  rfl
theorem wp_execs_cons {M : Model} {Γ : Ctx} {env : Env} {Q : Flow → Pos → Shared → Prop} {E : Value → Pos → Shared → Prop} (x : Stmt) (l : List Stmt) (p : Pos) (s : Shared)
    (h : wp M Γ (exec x env) (fun f p' s' => f = .next ∧ wp M Γ (execs l env) Q E p' s') E p s) : wp M Γ (execs (x :: l) env) Q E p s := by
  show wp M Γ (exec x env >>= fun f => match f with | .next => execs l env | f => pure f) Q E p s
  rw [Sem.wp_bind']
  refine Sem.wp_mono M Γ _ (fun f p1 s1 h2 => ?_) (fun _ _ _ z => z) p s h
  obtain ⟨rfl, h3⟩ := h2
  exact h3
theorem kA (w : World) (os : OsState) (p : Pos) (b : Bool) : goK (stepT (denote table) P (wf w b)) (denote table) 1 3000 (SbT (wf w b) os) ⟨execs la env >>= fun f => pure (.done f), .body ss env, p, [topFrame q0]⟩ = some (S1T (wf w b) os, .next) := by
  have h := eA w os p b
  unfold goQ body at h
  rw [← stQ_eq, ← den_eq] at h
  exact h
theorem kS (w : World) (os : OsState) (p : Pos) (b : Bool) : goK (stepT (denote table) P (wf w b)) (denote table) 1 300 (S2T (wf w b) os) ⟨assignStores env (.ref (S1T (wf w b) os).n) none stores >>= fun f => pure (.done f), .body ss env, p, [topFrame q0]⟩ = some (S2bT (wf w b) os, .next) := by
  have h := eS w os p b
  unfold goQ body at h
  rw [← stQ_eq, ← den_eq] at h
  exact h
theorem kB (w : World) (os : OsState) (p : Pos) (b : Bool) : goK (stepT (denote table) P (wf w b)) (denote table) 1 6000 (S2bT (wf w b) os) ⟨execs lb env >>= fun f => pure (.done f), .body ss env, p, [topFrame q0]⟩ = some (S3T (wf w b) os, .next) := by
  have h := eB w os p b
  unfold goQ body at h
  rw [← stQ_eq, ← den_eq] at h
  exact h
theorem k1 (w : World) (os : OsState) : stepsK (stepT (denote table) P w) (denote table) 12 (S0T w os) (topStub P) = some (SbT w os, ⟨denote table (.body ss env), .body ss env, q0, [topFrame q0]⟩) := by
  have h := e1 w os
  rw [← stQ_eq, ← den_eq] at h
  exact h
theorem disp (w : World) (os : OsState) (b : Bool) : wpAny (model P (wf w b)) (Aro ss env q0) (eval (.Dict keys values posD) env) (fun v s1 => v = .ref (S1T (wf w b) os).n ∧ s1 = (S2T (wf w b) os).abs) (fun _ _ => False) (S1T (wf w b) os).abs := by
  refine disp_run (prog := P) (w := wf w b) (A := Aro ss env q0) (env := env) (keys := keys) (values := values) (pos := posD) (l1 := l1) (l2 := l2) room len1 len2 len2' shape fits1 fits2 nodup ?_ ?_
  · rw [size_abs]; exact Nat.le_of_ble_eq_true (eN w os b)
  · exact ⟨by rw [size_abs], (dispT_abs (eD w os b)).symm⟩
theorem stores_eq : (assignEach targets env).map (·.2) = stores := by kernel_rfl
theorem mid (w : World) (os : OsState) (b : Bool) (p : Pos) : wp (model P (wf w b)) (Gam ss env q0) (execs (st :: lb) env) (fun f _ s' => f = .next ∧ s' = (S3T (wf w b) os).abs) (fun _ _ _ => False) p (S1T (wf w b) os).abs := by
  refine wp_execs_cons st lb p _ ?_
  rw [st_eq]
  refine wp_assign (V := .ref (S1T (wf w b) os).n) (S2 := (S2T (wf w b) os).abs) swaps1 swaps2 (gam_in ss env q0) (disp w os b) fun p1 => ?_
  rw [stores_eq]
  refine wp_of_go (base := [topFrame q0]) (kS w os p1 b) fun p2 => ⟨rfl, ?_⟩
  exact wp_of_go (base := [topFrame q0]) (kB w os p2 b) fun p3 => ⟨rfl, rfl⟩
theorem fin (w : World) (os : OsState) (b : Bool) (hr : (S0 (wf w b) os).asleep) : ∃ S, TopEnds P qv loose hk.says (wf w b) os S := by
  have f1 := eL w os b
  have f2 := eV w os b
  have f3 := eO w os b
  have f4 := eG w os b
  have f5 := eI w os b
  have f6 := eU w os b
  have f7 := eK w os b
  refine ⟨(S3T (wf w b) os).abs, ⟨?_, f4, f5, f6, ?_, f1, ?_, ?_⟩⟩
  · have q := top_run (P := P) (w := wf w b) (ss := ss) (la := la) (lb := st :: lb) (env := env) (q := q0) (n1 := 12) (nA := 3000) (S0 := S0T (wf w b) os) (Sb := SbT (wf w b) os) (S1 := S1T (wf w b) os) (S3 := S3T (wf w b) os) (by rw [S0T_abs]; exact hr)
      (k1 (wf w b) os) ss_eq blk (fun p => kA w os p b) (mid w os b) f4
    rw [S0T_abs] at q
    exact q
  · intro x o hx h1 h2
    have lt : x < 11 := by have := Heap.lt_size hx; rw [size0] at this; exact this
    have g := congrArg (fun l => l[x]?) f7
    simp only [frame, List.getElem?_map, List.getElem?_range lt, Option.map_some] at g
    have h3 : (x == mainNs || x == cStatics) = false := by simp [h1, h2]
    rw [h3] at g
    simp only [Bool.false_eq_true, if_false, Option.some.injEq] at g
    rw [← getT_eq, g, getT_eq, S0T_abs]
    exact hx
  · rw [seenQ_eq]; exact f2
  · have h : hk.obs (S3T (wf w b) os).abs = hk.val (wf w b) := by rw [← ob_eq]; exact f3
    exact hk.of _ _ h
theorem stands (w : World) : Stands R qv loose hk.says w := by
  refine byRow2 "special-get-raises" (P := fun w => Stands R qv loose hk.says w) (fun w => ?_) (fun w => ?_) w
  · exact stands_of (by kernel_rfl) (fun s => by kernel_rfl) (by decide +kernel) (wf w false) fun os hr => fin w os false hr
  · exact stands_of (by kernel_rfl) (fun s => by kernel_rfl) (by decide +kernel) (wf w true) fun os hr => fin w os true hr
end HdP
end
section
set_option autoImplicit false
set_option Elab.async false
set_option linter.all false
set_option maxRecDepth 100000
namespace HdX
open PySem PySem.Spec PyProof.Rows L2
open PySem.W (Codec OpenSpec)
/-- the call of the asked def, the written part found at the heap that stands -/
theorem walk_here {r : OpenSpec} {k : Nat} {q : Program} {loose : List Str} {XP : (Str → Option Value) → Heap → Prop} {YP : World → Heap → Prop} {d : DefRec} {ps : List Str} {sp : PySem.W.Frag → Sp}
    (hwell : r.wellSaid = true) (hlen : r.args.length = ps.length) (hr : Room k PySem.callerA)
    (F : ∀ (w : World) (mg : Str → Option Value) (fa : Addr) (h : Heap), YP w h → h.Ns mainGlobals mg → mg d.name = some (.ref fa) → ∃ (K : PySem.W.Frag) (fd : FuncData), K.In h ∧
      (∀ (s : Shared) (us : List Value), us.length = ps.length → BindsTo s fd ⟨us, []⟩ (ps.zip us)) ∧
      ∀ base : Heap, K.In base → base.Ns mainGlobals mg → FnOk r.prog w K mg base CX0 k fa fd ps (sp K))
    (hsp : ∀ (K : PySem.W.Frag) (H : Hp) (xs : List V) (a : Codec.denoteAll r.args), OnlyF H → Codec.withinAll r.args a = true → Codec.app r.args r.asked a = true → DwAll K H xs (Codec.encAll r.args a) →
      sp K xs H (fun v H' => Dw K H' v (r.ret.enc (Codec.app r.args r.f a))) fun _ _ _ => False) :
    PySem.W.WalkOS q loose XP YP r d [] (fun f vs => PySem.call f vs) := by
  intro w t u mg mb G Y fa o pm cd doc dV kV ho hd hcd hD hmg hg args vals as hpre hlay hrd hwl hlo
  obtain ⟨a, e1, e2⟩ := PySem.W.os_pre_some hpre
  obtain ⟨e3, hwi⟩ := Codec.encAll_of_decAll r.args args a e1
  subst e3
  obtain ⟨K, fd, KX, hb, hF⟩ := F w mg fa _ Y G.T.g hmg
  have one := spec_call (R := []) (cl := PySem.classAt t.heap) (d0 := r.ret.enc (Codec.app r.args r.f a)) KX G.T.g G.T.b G.T.builtins G.T.nolimit hg hwl
    (pl_encAll _ _) (layable_weight hlay) hr hF hb (by rw [encAll_len]; exact hlen)
    (fun H xs hO hS => hsp K H xs a hO hwi e2 hS) fun H e s' z => z
  refine PySem.W.enter_call (codeAny_mono one fun res s' hq => ?_)
  obtain ⟨x, as', rfl, h1, h2, h3, h4⟩ := hq
  refine ⟨.inl ⟨x, _, as', rfl, fun _ => rfl, h1, ?_, fun z => Bool.noConfusion (show false = true from z)⟩, h2, h3, h4⟩
  exact (OpenSpec.post_iff hwell hwi _ _).mpr rfl
end HdX
end
section
set_option linter.all false
/-! # What is read from a text stays small: tokens and bytes pay for it. Plain Lean. -/
namespace Mx
open Co01
/-- a token's bytes, at least -/
def tl : Tok → Nat
  | .word w => w.length
  | .num n => (n.log2 + 4) / 4
  | .sign _ => 1
def TL (r : Rest) : Nat := (r.map fun x => tl x.2).sum
/-- tokens are as they are cut -/
def tokOk : Tok → Prop
  | .word w => 1 ≤ w.length ∧ (isName w = true → w.length ≤ 8) ∧ ∀ c ∈ w, small c = true
  | .num n => n < 10000000
  | .sign _ => True
def TokOk (r : Rest) : Prop := ∀ x ∈ r, tokOk x.2
theorem TokOk.tail {r : Rest} (h : TokOk r) : TokOk r.tail := fun x hx => h x (List.mem_of_mem_tail hx)
theorem TL_cons (x : Nat × Tok) (r : Rest) : TL (x :: r) = tl x.2 + TL r := by simp [TL]
theorem len_map {f : Except Nat (List (Nat × Tok))} {x : Nat × Tok} {r : Rest} (h : f.map (fun r => x :: r) = .ok r) : ∃ r', f = .ok r' ∧ r = x :: r' := by
  cases q : f with
  | error z => rw [q] at h; cases h
  | ok r' => rw [q] at h; injection h with h'; exact ⟨r', rfl, h'.symm⟩
theorem tw_len (f : Nat → Bool) (l : Bytes) : (l.takeWhile f).length + (l.drop (l.takeWhile f).length).length = l.length := by
  have h : (l.takeWhile f).length ≤ l.length := (List.takeWhile_prefix (p := f) (l := l)).length_le
  rw [List.length_drop]; omega
theorem lex_fine : ∀ (k p : Nat) (l : Bytes) (r : List (Nat × Tok)), lex k p l = .ok r → TokOk r ∧ TL r ≤ l.length
  | 0, _, _, _, h => by cases h
  | k + 1, _, [], r, h => by
    have h' : (Except.ok [] : Except Nat (List (Nat × Tok))) = .ok r := h
    injection h' with h''
    subst h''
    exact ⟨fun x hx => (nomatch hx), Nat.le_refl _⟩
  | k + 1, p, c :: l, r, h => by
    rw [lex] at h
    split at h
    · obtain ⟨h1, h2⟩ := lex_fine k _ l r h
      exact ⟨h1, by simp; omega⟩
    · split at h
      · rename_i hs
        dsimp only at h
        split at h
        · cases h
        · rename_i hw
          obtain ⟨r', h1, rfl⟩ := len_map h
          obtain ⟨h2, h3⟩ := lex_fine k _ _ r' h1
          have h4 := tw_len small (c :: l)
          have h5 : 1 ≤ ((c :: l).takeWhile small).length := by rw [List.takeWhile_cons, if_pos hs]; simp
          refine ⟨fun x hx => ?_, by rw [TL_cons]; show ((c :: l).takeWhile small).length + _ ≤ _; omega⟩
          rcases List.mem_cons.mp hx with rfl | hx
          · refine ⟨h5, fun hn => ?_, fun d hd => mem_tw hd⟩
            have := fun a b => hw ⟨a, b⟩
            by_cases c8 : 8 < ((c :: l).takeWhile small).length
            · have h6 : (c :: l).takeWhile small = ascii "otherwise" := by
                by_cases e : (c :: l).takeWhile small = ascii "otherwise"
                · exact e
                · exact absurd ⟨c8, e⟩ hw
              rw [h6] at hn
              exact absurd hn (by decide)
            · omega
          · exact h2 x hx
      · split at h
        · rename_i hd
          dsimp only at h
          split at h
          · cases h
          · rename_i hw
            obtain ⟨r', h1, rfl⟩ := len_map h
            obtain ⟨h2, h3⟩ := lex_fine k _ _ r' h1
            have h4 := tw_len digit (c :: l)
            have h5 : 1 ≤ ((c :: l).takeWhile digit).length := by rw [List.takeWhile_cons, if_pos hd]; simp
            have h6 := value_lt ((c :: l).takeWhile digit) 0 fun d hd => mem_tw hd
            have h7 : valueOf ((c :: l).takeWhile digit) < 10 ^ ((c :: l).takeWhile digit).length := by unfold valueOf; omega
            refine ⟨fun x hx => ?_, ?_⟩
            · rcases List.mem_cons.mp hx with rfl | hx
              · have h2 : 10 ^ ((c :: l).takeWhile digit).length ≤ 10 ^ 7 := Nat.pow_le_pow_right (by decide) (by omega)
                show valueOf _ < _
                omega
              · exact h2 x hx
            · rw [TL_cons]
              show ((valueOf ((c :: l).takeWhile digit)).log2 + 4) / 4 + _ ≤ _
              have h8 : (valueOf ((c :: l).takeWhile digit)).log2 < 4 * ((c :: l).takeWhile digit).length := by
                by_cases z : valueOf ((c :: l).takeWhile digit) = 0
                · rw [z]; show 0 < _; omega
                · refine log2_lt z ?_
                  have : (10 : Nat) ^ ((c :: l).takeWhile digit).length ≤ 16 ^ ((c :: l).takeWhile digit).length := Nat.pow_le_pow_left (by decide) _
                  rw [Nat.pow_mul]
                  exact Nat.lt_of_lt_of_le h7 this
              omega
        · split at h
          · obtain ⟨r', h1, rfl⟩ := len_map h
            obtain ⟨h2, h3⟩ := lex_fine k _ _ r' h1
            refine ⟨fun x hx => ?_, by rw [TL_cons]; show 1 + _ ≤ _; simp; omega⟩
            rcases List.mem_cons.mp hx with rfl | hx
            · trivial
            · exact h2 x hx
          · cases h
/-- a step of an expression: numbers below 10^7, short names -/
def xsOk : XS → Prop
  | .num n => n < 10000000
  | .name b => 1 ≤ b.length ∧ b.length ≤ 8 ∧ ∀ c ∈ b, small c = true
  | _ => True
def XsOk (l : List XS) : Prop := ∀ x ∈ l, xsOk x
theorem XsOk.app {a b : List XS} (h : XsOk a) (h' : XsOk b) : XsOk (a ++ b) := fun x hx => (List.mem_append.mp hx).elim (h x) (h' x)
theorem XsOk.one {x : XS} (h : xsOk x) : XsOk [x] := fun y hy => by rw [List.mem_singleton] at hy; subst hy; exact h
theorem bind_ok {α β : Type} {m : Except Nat α} {f : α → Except Nat β} {y : β} (h : (m >>= f) = .ok y) : ∃ x, m = .ok x ∧ f x = .ok y := by
  cases m with
  | error e => cases h
  | ok x => exact ⟨x, rfl, h⟩
theorem ret_ok {α : Type} {x y : α} (h : (pure x : Except Nat α) = .ok y) : x = y := by
  have h' : Except.ok x = Except.ok y := h
  injection h'
theorem need_ok {f : Rest → Bool} {e : Nat} {r t : Rest} (h : need f e r = .ok t) : f r = true ∧ t = r.tail := by
  unfold need at h
  split at h
  · rename_i q; injection h with h; exact ⟨q, h.symm⟩
  · cases h
theorem sign_at {z : String} {r : Rest} (h : isSign z r = true) : TL r = 1 + TL r.tail ∧ r.length = r.tail.length + 1 := by
  cases r with
  | nil => cases h
  | cons x t =>
    obtain ⟨p, tk⟩ := x
    cases tk with
    | sign c => exact ⟨TL_cons _ _, rfl⟩
    | _ => cases h
theorem word_at {z : String} {r : Rest} (h : isWord z r = true) : TL r = (ascii z).length + TL r.tail ∧ r.length = r.tail.length + 1 := by
  cases r with
  | nil => cases h
  | cons x t =>
    obtain ⟨p, tk⟩ := x
    cases tk with
    | word w =>
      have e : w = ascii z := by simpa [isWord] using h
      subst e
      exact ⟨TL_cons _ _, rfl⟩
    | _ => cases h
/-- what is read of r, up to t: steps xs; its numbers weigh so much -/
structure Paid (r t : Rest) (xs : List XS) (w : Nat) : Prop where
  tok : TokOk t
  ok : XsOk xs
  steps : xs.length + t.length ≤ r.length
  wt : w + 10 * TL t ≤ 10 * TL r + 10
  tl : TL t + 1 ≤ TL r
structure EFine (e k : Nat) : Prop where
  ex : ∀ lv r x t, TokOk r → expr e k lv r = .ok (x, t) → Paid r t (postE x) (Mx.wt x)
  su : ∀ a r0 r x t, Paid r0 r (postE a) (Mx.wt a) → expr.sums e k a r = .ok (x, t) → Paid r0 t (postE x) (Mx.wt x)
  pr : ∀ a r0 r x t, Paid r0 r (postE a) (Mx.wt a) → expr.products e k a r = .ok (x, t) → Paid r0 t (postE x) (Mx.wt x)
theorem paid_two {r0 r m t : Rest} {a b : List XS} {wa wb : Nat} {o : XS} (h1 : Paid r0 r a wa) (hr : TL r = 1 + TL m ∧ r.length = m.length + 1) (h2 : Paid m t b wb) (ho : xsOk o) : Paid r0 t (a ++ b ++ [o]) (wa + wb) where
  tok := h2.tok
  ok := (h1.ok.app h2.ok).app (.one ho)
  steps := by have := h1.steps; have := h2.steps; simp; omega
  wt := by have := h1.wt; have := h2.wt; omega
  tl := by have := h1.tl; have := h2.tl; omega
theorem efine (e : Nat) : ∀ k, EFine e k
  | 0 => ⟨fun lv r x t _ h => (by cases lv <;> cases h), fun a r0 r x t _ h => (by cases h), fun a r0 r x t _ h => (by cases h)⟩
  | k + 1 => by
    have ih := efine e k
    refine ⟨fun lv r x t hr h => ?_, fun a r0 r x t hp h => ?_, fun a r0 r x t hp h => ?_⟩
    · match lv with
      | 0 =>
        rw [expr] at h
        obtain ⟨⟨y, r1⟩, h1, h2⟩ := bind_ok h
        exact ih.su y r r1 x t (ih.ex 1 r y r1 hr h1) h2
      | 1 =>
        rw [expr] at h
        obtain ⟨⟨y, r1⟩, h1, h2⟩ := bind_ok h
        exact ih.pr y r r1 x t (ih.ex 2 r y r1 hr h1) h2
      | lv + 2 =>
        cases r with
        | nil => cases h
        | cons q r =>
          obtain ⟨p, tk⟩ := q
          have hq := hr _ (List.mem_cons_self ..)
          have ht : TokOk r := hr.tail
          cases tk with
          | num n =>
            have h' : (Except.ok (Exp.num n, r) : Except Nat (Exp × Rest)) = .ok (x, t) := h
            injection h' with h'
            injection h' with e1 e2
            subst e1 e2
            refine ⟨ht, .one hq, by simp [postE]; omega, ?_, ?_⟩
            · rw [TL_cons]; show n.log2 + 1 + _ ≤ 10 * ((n.log2 + 4) / 4 + _) + 10; omega
            · rw [TL_cons]; show _ ≤ (n.log2 + 4) / 4 + _; omega
          | word w =>
            have h' : (if w = ascii "max" ∨ w = ascii "min" then do
                let t ← need (isSign "(") e r
                let a ← expr e k 0 t
                let t ← need (isSign ",") e a.2
                let b ← expr e k 0 t
                let t ← need (isSign ")") e b.2
                return (if w = ascii "max" then Exp.max a.1 b.1 else .min a.1 b.1, t)
              else if isName w = true then .ok (.name w, r) else .error p : Except Nat (Exp × Rest)) = .ok (x, t) := h
            split at h'
            · rename_i hw
              have hl : tl (.word w) = 3 := by rcases hw with rfl | rfl <;> rfl
              obtain ⟨t1, h1, h'⟩ := bind_ok h'
              obtain ⟨s1, rfl⟩ := need_ok h1
              obtain ⟨⟨a, r2⟩, h2, h'⟩ := bind_ok h'
              obtain ⟨t3, h3, h'⟩ := bind_ok h'
              obtain ⟨s3, rfl⟩ := need_ok h3
              obtain ⟨⟨b, r4⟩, h4, h'⟩ := bind_ok h'
              obtain ⟨t5, h5, h'⟩ := bind_ok h'
              obtain ⟨s5, rfl⟩ := need_ok h5
              have h6 := ret_ok h'
              injection h6 with e1 e2
              have p1 := ih.ex 0 _ a r2 ht.tail h2
              have p2 := ih.ex 0 _ b r4 p1.tok.tail h4
              have q1 := sign_at s1
              have q3 := sign_at s3
              have q5 := sign_at s5
              dsimp only at q3 q5 p2
              have two : ∀ o : Op2, Paid ((p, Tok.word w) :: r) r4.tail (postE a ++ postE b ++ [XS.bin o]) (Mx.wt a + Mx.wt b) := fun o => by
                have a1 := p1.steps; have a2 := p2.steps; have b1 := p1.wt; have b2 := p2.wt; have c1 := p1.tl; have c2 := p2.tl
                refine ⟨p2.tok.tail, (p1.ok.app p2.ok).app (.one trivial), by simp; omega, by rw [TL_cons, hl]; omega, by rw [TL_cons, hl]; omega⟩
              subst e2
              by_cases c : w = ascii "max"
              · rw [if_pos c] at e1; subst e1; exact two .max
              · rw [if_neg c] at e1; subst e1; exact two .min
            · split at h'
              · rename_i hn
                injection h' with h'
                injection h' with e1 e2
                subst e1 e2
                obtain ⟨h1, h2, h3⟩ := hq
                refine ⟨ht, .one ⟨h1, h2 hn, h3⟩, by simp [postE]; omega, ?_, ?_⟩
                · rw [TL_cons]; show 20 + _ ≤ 10 * (w.length + _) + 10; omega
                · rw [TL_cons]; show _ ≤ w.length + _; omega
              · cases h'
          | sign c =>
            have h' : (if c = 45 then do
                let a ← expr e k 2 r
                return (.neg a.1, a.2)
              else if c = 40 then do
                let a ← expr e k 0 r
                let t ← need (isSign ")") e a.2
                return (a.1, t)
              else .error p : Except Nat (Exp × Rest)) = .ok (x, t) := h
            split at h'
            · obtain ⟨⟨a, r1⟩, h1, h'⟩ := bind_ok h'
              have h6 := ret_ok h'
              injection h6 with e1 e2
              subst e1 e2
              have p1 := ih.ex 2 _ a r1 ht h1
              have a1 := p1.steps; have b1 := p1.wt; have c1 := p1.tl
              refine ⟨p1.tok, p1.ok.app (.one trivial), ?_, ?_, ?_⟩
              · simp [postE]; omega
              · rw [TL_cons]; show Mx.wt a + _ ≤ 10 * (1 + _) + 10; dsimp only; omega
              · rw [TL_cons]; show _ ≤ 1 + _; dsimp only; omega
            · split at h'
              · obtain ⟨⟨a, r1⟩, h1, h'⟩ := bind_ok h'
                obtain ⟨t5, h5, h'⟩ := bind_ok h'
                obtain ⟨s5, rfl⟩ := need_ok h5
                have h6 := ret_ok h'
                injection h6 with e1 e2
                subst e1 e2
                have p1 := ih.ex 0 _ a r1 ht h1
                have q5 := sign_at s5
                have a1 := p1.steps; have b1 := p1.wt; have c1 := p1.tl
                dsimp only at q5
                refine ⟨p1.tok.tail, p1.ok, ?_, ?_, ?_⟩
                · have z := q5.2; show (postE a).length + r1.tail.length ≤ r.length + 1; omega
                · rw [TL_cons]; show Mx.wt a + _ ≤ 10 * (1 + _) + 10; dsimp only; omega
                · rw [TL_cons]; show _ ≤ 1 + _; dsimp only; omega
              · cases h'
    · rw [expr.sums] at h
      split at h
      · rename_i s1
        obtain ⟨⟨b, r1⟩, h1, h2⟩ := bind_ok h
        refine ih.su _ r0 r1 x t ?_ h2
        exact paid_two hp (sign_at s1) (ih.ex 1 _ b r1 hp.tok.tail h1) trivial
      · split at h
        · rename_i s1
          obtain ⟨⟨b, r1⟩, h1, h2⟩ := bind_ok h
          refine ih.su _ r0 r1 x t ?_ h2
          exact paid_two hp (sign_at s1) (ih.ex 1 _ b r1 hp.tok.tail h1) trivial
        · injection h with h
          injection h with e1 e2
          subst e1 e2
          exact hp
    · rw [expr.products] at h
      split at h
      · rename_i s1
        obtain ⟨⟨b, r1⟩, h1, h2⟩ := bind_ok h
        refine ih.pr _ r0 r1 x t ?_ h2
        exact paid_two hp (sign_at s1) (ih.ex 2 _ b r1 hp.tok.tail h1) trivial
      · injection h with h
        injection h with e1 e2
        subst e1 e2
        exact hp
theorem ret2 {α β : Type} {x a : α} {y b : β} (h : (pure (x, y) : Except Nat (α × β)) = .ok (a, b)) : x = a ∧ y = b := by
  have h' := ret_ok h
  injection h' with e1 e2
  exact ⟨e1, e2⟩
theorem postE_pos : ∀ e : Exp, 0 < (postE e).length := by
  intro e
  cases e <;> simp [postE] <;> omega
/-! ## conditions -/
structure CFine (e k : Nat) : Prop where
  ex : ∀ lv r x t, TokOk r → Co01.cond e k lv r = .ok (x, t) → Paid r t (postC x) (wtC x)
  su : ∀ a r0 r x t, Paid r0 r (postC a) (wtC a) → Co01.cond.ors e k a r = .ok (x, t) → Paid r0 t (postC x) (wtC x)
  pr : ∀ a r0 r x t, Paid r0 r (postC a) (wtC a) → Co01.cond.ands e k a r = .ok (x, t) → Paid r0 t (postC x) (wtC x)
theorem cfine (e : Nat) : ∀ k, CFine e k
  | 0 => ⟨fun lv r x t _ h => (by cases lv <;> cases h), fun a r0 r x t _ h => (by cases h), fun a r0 r x t _ h => (by cases h)⟩
  | k + 1 => by
    have ih := cfine e k
    have E := efine e k
    refine ⟨fun lv r x t hr h => ?_, fun a r0 r x t hp h => ?_, fun a r0 r x t hp h => ?_⟩
    · match lv with
      | 0 =>
        rw [Co01.cond] at h
        obtain ⟨⟨y, r1⟩, h1, h2⟩ := bind_ok h
        exact ih.su y r r1 x t (ih.ex 1 r y r1 hr h1) h2
      | 1 =>
        rw [Co01.cond] at h
        obtain ⟨⟨y, r1⟩, h1, h2⟩ := bind_ok h
        exact ih.pr y r r1 x t (ih.ex 2 r y r1 hr h1) h2
      | lv + 2 =>
        rw [Co01.cond] at h
        · split at h
          · rename_i s1
            obtain ⟨⟨a, r1⟩, h1, h'⟩ := bind_ok h
            dsimp only at h'
            obtain ⟨rfl, rfl⟩ := ret2 h'
            have p1 := ih.ex 2 _ a r1 hr.tail h1
            have q1 := word_at s1
            have l1 : (ascii "not").length = 3 := rfl
            have a1 := p1.steps; have b1 := p1.wt; have c1 := p1.tl
            refine ⟨p1.tok, p1.ok.app (.one trivial), ?_, ?_, ?_⟩
            · simp [postC]; omega
            · show wtC a + _ ≤ _; omega
            · omega
          · split at h
            · rename_i s1
              obtain ⟨⟨a, r1⟩, h1, h'⟩ := bind_ok h
              obtain ⟨t5, h5, h'⟩ := bind_ok h'
              obtain ⟨s5, rfl⟩ := need_ok h5
              dsimp only at h'
              obtain ⟨rfl, rfl⟩ := ret2 h'
              have p1 := ih.ex 0 _ a r1 hr.tail h1
              have q1 := sign_at s1
              have q5 := sign_at s5
              dsimp only at q5
              have a1 := p1.steps; have b1 := p1.wt; have c1 := p1.tl
              have z := q5.2
              refine ⟨p1.tok.tail, p1.ok, ?_, ?_, ?_⟩
              · show (postC a).length + r1.tail.length ≤ _; omega
              · show wtC a + _ ≤ _; omega
              · omega
            · obtain ⟨⟨a, r1⟩, h1, h⟩ := bind_ok h
              have p1 := E.ex 0 r a r1 hr h1
              dsimp only at h
              split at h
              · rename_i s1
                obtain ⟨⟨b, r2⟩, h2, h'⟩ := bind_ok h
                dsimp only at h'
                obtain ⟨rfl, rfl⟩ := ret2 h'
                exact paid_two p1 (sign_at s1) (E.ex 0 _ b r2 p1.tok.tail h2) trivial
              · split at h
                · rename_i s1
                  obtain ⟨⟨b, r2⟩, h2, h'⟩ := bind_ok h
                  dsimp only at h'
                  obtain ⟨rfl, rfl⟩ := ret2 h'
                  exact paid_two p1 (sign_at s1) (E.ex 0 _ b r2 p1.tok.tail h2) trivial
                · split at h
                  · rename_i s1
                    obtain ⟨⟨b, r2⟩, h2, h'⟩ := bind_ok h
                    dsimp only at h'
                    obtain ⟨rfl, rfl⟩ := ret2 h'
                    exact paid_two p1 (sign_at s1) (E.ex 0 _ b r2 p1.tok.tail h2) trivial
                  · cases h
        · intro q; omega
        · intro q; omega
    · rw [Co01.cond.ors] at h
      split at h
      · rename_i s1
        obtain ⟨⟨b, r1⟩, h1, h2⟩ := bind_ok h
        refine ih.su _ r0 r1 x t ?_ h2
        exact paid_two hp (sign_at s1) (ih.ex 1 _ b r1 hp.tok.tail h1) trivial
      · injection h with h
        injection h with e1 e2
        subst e1 e2
        exact hp
    · rw [Co01.cond.ands] at h
      split at h
      · rename_i s1
        obtain ⟨⟨b, r1⟩, h1, h2⟩ := bind_ok h
        refine ih.pr _ r0 r1 x t ?_ h2
        exact paid_two hp (sign_at s1) (ih.ex 2 _ b r1 hp.tok.tail h1) trivial
      · injection h with h
        injection h with e1 e2
        subst e1 e2
        exact hp
/-! ## agreements -/
/-- a step's detail is small: N steps at most, numbers short; a factor weighs little -/
def AOk (N W : Nat) (x : St) : Prop := match x.d with
  | .exp e => XsOk (postE e) ∧ (postE e).length ≤ N ∧ (x.w = ascii "times" → Mx.wt e + 90 ≤ 10 * W)
  | .cond c => XsOk (postC c) ∧ (postC c).length ≤ N
  | .num k => k < 10000000
  | .none => True
theorem AOk.more {N W N' W' : Nat} {x : St} (h : AOk N W x) (h1 : N ≤ N') (h2 : W ≤ W') : AOk N' W' x := by
  obtain ⟨w, d⟩ := x
  cases d with
  | none => trivial
  | num k => exact h
  | exp e => obtain ⟨a, b, c⟩ := h; exact ⟨a, Nat.le_trans b h1, fun q => by have := c q; omega⟩
  | cond c => obtain ⟨a, b⟩ := h; exact ⟨a, Nat.le_trans b h1⟩
structure APaid (r t : Rest) (a : Ag) : Prop where
  tok : TokOk t
  ok : ∀ x ∈ post a, AOk r.length (TL r) x
  steps : (post a).length + t.length ≤ r.length
  tl : TL t + 4 ≤ TL r
theorem apaid_two {r0 r m t : Rest} {a b c : Ag} {o : St} {n : Nat} (h1 : APaid r0 r a) (hr : TL r = n + TL m ∧ r.length = m.length + 1) (h2 : APaid m t b) (ho : o.d = .none) (hc : post c = post a ++ post b ++ [o]) : APaid r0 t c where
  tok := h2.tok
  ok := fun x hx => by
    have a1 := h1.steps; have b1 := h1.tl
    rw [hc] at hx
    rcases List.mem_append.mp hx with hx | hx
    · rcases List.mem_append.mp hx with hx | hx
      · exact h1.ok x hx
      · exact (h2.ok x hx).more (by omega) (by omega)
    · rw [List.mem_singleton] at hx; subst hx
      unfold AOk; rw [ho]; trivial
  steps := by have := h1.steps; have := h2.steps; rw [hc]; simp; omega
  tl := by have := h1.tl; have := h2.tl; omega
theorem number_ok {e : Nat} {r : Rest} {n : Nat} {t : Rest} (h : number e r = .ok (n, t)) (hr : TokOk r) : TokOk t ∧ n < 10000000 ∧ TL t + 1 ≤ TL r ∧ r.length = t.length + 1 := by
  cases r with
  | nil => cases h
  | cons x r =>
    obtain ⟨p, tk⟩ := x
    cases tk with
    | num k =>
      have h' : (Except.ok (k, r) : Except Nat (Nat × Rest)) = .ok (n, t) := h
      injection h' with h'
      injection h' with e1 e2
      subst e1 e2
      refine ⟨hr.tail, hr _ (List.mem_cons_self ..), ?_, rfl⟩
      rw [TL_cons]; show _ ≤ (k.log2 + 4) / 4 + _; omega
    | _ => cases h
structure AFine (e k : Nat) : Prop where
  ex : ∀ lv r x t, TokOk r → agreement e k lv r = .ok (x, t) → APaid r t x
  su : ∀ a r0 r x t, APaid r0 r a → agreement.choices e k a r = .ok (x, t) → APaid r0 t x
  pr : ∀ a r0 r x t, APaid r0 r a → agreement.ands e k a r = .ok (x, t) → APaid r0 t x
theorem wlen (z : String) (h : (ascii z).length = n) : (ascii z).length = n := h
/-- one part behind a word (and more): its own step on top -/
theorem apaid_one {r r1 t : Rest} {a c : Ag} {o : St} (h2 : APaid r1 t a) (hl : r1.length + 1 ≤ r.length) (ht : TL r1 ≤ TL r) (hc : post c = post a ++ [o]) (ho : AOk r.length (TL r) o) : APaid r t c where
  tok := h2.tok
  ok := fun x hx => by
    rw [hc] at hx
    rcases List.mem_append.mp hx with hx | hx
    · exact (h2.ok x hx).more (by omega) (by omega)
    · rw [List.mem_singleton] at hx; subst hx; exact ho
  steps := by have := h2.steps; rw [hc]; simp; omega
  tl := by have := h2.tl; omega
theorem afine (e : Nat) : ∀ k, AFine e k
  | 0 => ⟨fun lv r x t _ h => (by cases lv <;> cases h), fun a r0 r x t _ h => (by cases h), fun a r0 r x t _ h => (by cases h)⟩
  | k + 1 => by
    have ih := afine e k
    have E := efine e k
    have C := cfine e k
    refine ⟨fun lv r x t hr h => ?_, fun a r0 r x t hp h => ?_, fun a r0 r x t hp h => ?_⟩
    · match lv with
      | 0 =>
        rw [agreement] at h
        obtain ⟨⟨y, r1⟩, h1, h2⟩ := bind_ok h
        exact ih.su y r r1 x t (ih.ex 1 r y r1 hr h1) h2
      | 1 =>
        rw [agreement] at h
        obtain ⟨⟨y, r1⟩, h1, h2⟩ := bind_ok h
        exact ih.pr y r r1 x t (ih.ex 2 r y r1 hr h1) h2
      | lv + 2 =>
        rw [agreement] at h
        · split at h
          · rename_i s1
            injection h with h
            injection h with e1 e2
            subst e1 e2
            have q := word_at s1
            have l1 : (ascii "nothing").length = 7 := rfl
            refine ⟨hr.tail, fun x hx => by rw [post, List.mem_singleton] at hx; subst hx; trivial, by simp [post]; simp at q; omega, by omega⟩
          · split at h
            · rename_i s1
              obtain ⟨⟨a, r1⟩, h1, h'⟩ := bind_ok h
              dsimp only at h'
              obtain ⟨rfl, rfl⟩ := ret2 h'
              have p1 := E.ex 0 _ a r1 hr.tail h1
              have q := word_at s1
              have l1 : (ascii "pay").length = 3 := rfl
              have a1 := p1.steps; have c1 := p1.tl
              have ps := postE_pos a
              refine ⟨p1.tok, fun x hx => ?_, ?_, ?_⟩
              · rw [post, List.mem_singleton] at hx; subst hx
                exact ⟨p1.ok, by omega, fun q => absurd (show ascii "pay" = ascii "times" from q) (by decide)⟩
              · show 1 + r1.length ≤ _; omega
              · omega
            · split at h
              · rename_i s1
                obtain ⟨⟨a, r1⟩, h1, h'⟩ := bind_ok h
                dsimp only at h'
                obtain ⟨rfl, rfl⟩ := ret2 h'
                have q := word_at s1
                exact apaid_one (ih.ex 2 _ a r1 hr.tail h1) (by omega) (by omega) rfl trivial
              · split at h
                · rename_i s1
                  obtain ⟨⟨n, r1⟩, h1, h'⟩ := bind_ok h
                  obtain ⟨⟨a, r2⟩, h2, h'⟩ := bind_ok h'
                  dsimp only at h'
                  obtain ⟨rfl, rfl⟩ := ret2 h'
                  obtain ⟨n1, n2, n3, n4⟩ := number_ok h1 hr.tail
                  have q := word_at s1
                  exact apaid_one (ih.ex 2 _ a r2 n1 h2) (by omega) (by omega) rfl n2
                · split at h
                  · rename_i s1
                    obtain ⟨⟨n, r1⟩, h1, h'⟩ := bind_ok h
                    obtain ⟨⟨a, r2⟩, h2, h'⟩ := bind_ok h'
                    dsimp only at h'
                    obtain ⟨rfl, rfl⟩ := ret2 h'
                    obtain ⟨n1, n2, n3, n4⟩ := number_ok h1 hr.tail
                    have q := word_at s1
                    exact apaid_one (ih.ex 2 _ a r2 n1 h2) (by omega) (by omega) rfl n2
                  · split at h
                    · rename_i s1
                      obtain ⟨⟨c, r1⟩, h1, h'⟩ := bind_ok h
                      obtain ⟨t2, h2, h'⟩ := bind_ok h'
                      obtain ⟨s2, rfl⟩ := need_ok h2
                      obtain ⟨⟨a, r3⟩, h3, h'⟩ := bind_ok h'
                      obtain ⟨t4, h4, h'⟩ := bind_ok h'
                      obtain ⟨s4, rfl⟩ := need_ok h4
                      obtain ⟨⟨b, r5⟩, h5, h'⟩ := bind_ok h'
                      dsimp only at h'
                      obtain ⟨rfl, rfl⟩ := ret2 h'
                      have p1 := C.ex 0 _ c r1 hr.tail h1
                      have p3 := ih.ex 2 _ a r3 p1.tok.tail h3
                      have p5 := ih.ex 2 _ b r5 p3.tok.tail h5
                      have q1 := word_at s1
                      have q2 := word_at s2
                      have q4 := word_at s4
                      dsimp only at q2 q4 p3 p5
                      have a1 := p1.steps; have c1 := p1.tl
                      have a3 := p3.steps; have c3 := p3.tl
                      have a5 := p5.steps; have c5 := p5.tl
                      refine ⟨p5.tok, fun x hx => ?_, ?_, ?_⟩
                      · rcases List.mem_append.mp hx with hx | hx
                        · rcases List.mem_append.mp hx with hx | hx
                          · exact (p3.ok x hx).more (by omega) (by omega)
                          · exact (p5.ok x hx).more (by omega) (by omega)
                        · rw [List.mem_singleton] at hx; subst hx
                          exact ⟨p1.ok, by omega⟩
                      · simp [post]; omega
                      · omega
                    · split at h
                      · rename_i s1
                        obtain ⟨⟨c, r1⟩, h1, h'⟩ := bind_ok h
                        obtain ⟨t2, h2, h'⟩ := bind_ok h'
                        obtain ⟨s2, rfl⟩ := need_ok h2
                        obtain ⟨⟨a, r3⟩, h3, h'⟩ := bind_ok h'
                        dsimp only at h'
                        obtain ⟨rfl, rfl⟩ := ret2 h'
                        have p1 := E.ex 0 _ c r1 hr.tail h1
                        have p3 := ih.ex 2 _ a r3 p1.tok.tail h3
                        have q1 := word_at s1
                        have l1 : (ascii "times").length = 5 := rfl
                        have q2 := sign_at s2
                        dsimp only at q2 p3
                        have a1 := p1.steps; have c1 := p1.tl; have w1 := p1.wt
                        have c3 := p3.tl
                        exact apaid_one p3 (by omega) (by omega) rfl ⟨p1.ok, by omega, fun _ => by omega⟩
                      · split at h
                        · rename_i s1
                          obtain ⟨⟨c, r1⟩, h1, h'⟩ := bind_ok h
                          obtain ⟨t2, h2, h'⟩ := bind_ok h'
                          obtain ⟨s2, rfl⟩ := need_ok h2
                          obtain ⟨⟨a, r3⟩, h3, h'⟩ := bind_ok h'
                          dsimp only at h'
                          obtain ⟨rfl, rfl⟩ := ret2 h'
                          have p1 := C.ex 0 _ c r1 hr.tail h1
                          have p3 := ih.ex 2 _ a r3 p1.tok.tail h3
                          have q1 := word_at s1
                          have q2 := sign_at s2
                          dsimp only at q2 p3
                          have a1 := p1.steps; have c1 := p1.tl
                          exact apaid_one p3 (by omega) (by omega) rfl ⟨p1.ok, by omega⟩
                        · split at h
                          · rename_i s1
                            obtain ⟨⟨a, r1⟩, h1, h'⟩ := bind_ok h
                            obtain ⟨t2, h2, h'⟩ := bind_ok h'
                            obtain ⟨s2, rfl⟩ := need_ok h2
                            dsimp only at h'
                            obtain ⟨rfl, rfl⟩ := ret2 h'
                            have p1 := ih.ex 0 _ a r1 hr.tail h1
                            have q1 := sign_at s1
                            have q2 := sign_at s2
                            dsimp only at q2
                            have a1 := p1.steps; have c1 := p1.tl
                            exact ⟨p1.tok.tail, fun x hx => (p1.ok x hx).more (by omega) (by omega), by omega, by omega⟩
                          · cases h
        · intro q; omega
        · intro q; omega
    · rw [agreement.choices] at h
      split at h
      · rename_i s1
        obtain ⟨⟨b, r1⟩, h1, h2⟩ := bind_ok h
        exact ih.su _ r0 r1 x t (apaid_two hp (word_at s1) (ih.ex 1 _ b r1 hp.tok.tail h1) rfl rfl) h2
      · split at h
        · rename_i s1
          obtain ⟨⟨b, r1⟩, h1, h2⟩ := bind_ok h
          exact ih.su _ r0 r1 x t (apaid_two hp (word_at s1) (ih.ex 1 _ b r1 hp.tok.tail h1) rfl rfl) h2
        · injection h with h
          injection h with e1 e2
          subst e1 e2
          exact hp
    · rw [agreement.ands] at h
      split at h
      · rename_i s1
        obtain ⟨⟨b, r1⟩, h1, h2⟩ := bind_ok h
        exact ih.pr _ r0 r1 x t (apaid_two hp (word_at s1) (ih.ex 2 _ b r1 hp.tok.tail h1) rfl rfl) h2
      · injection h with h
        injection h with e1 e2
        subst e1 e2
        exact hp
/-- what is read from a text -/
theorem read_fine {t : Bytes} {a : Ag} (h : readText t = .ok a) : (∀ x ∈ post a, AOk t.length t.length x) ∧ (post a).length ≤ t.length := by
  unfold readText at h
  split at h
  · cases h
  · rename_i r hl
    obtain ⟨h1, h2⟩ := lex_fine _ _ _ _ hl
    have h3 := lex_len _ _ _ _ hl
    split at h
    · cases h
    · rename_i a' ha
      injection h with h
      subst h
      have p := (afine t.length _).ex 0 r a' [] h1 ha
      have := p.steps
      exact ⟨fun x hx => (p.ok x hx).more h3 h2, by omega⟩
    · cases h
end Mx
end
section
set_option linter.all false
/-! # What stays true of an agreement from day to day. Plain Lean. -/
namespace Mx
open Co01
/-- an expression's step: a number that can be told, a short name -/
def xFit (ns : List Bytes) : XS → Prop
  | .num n => n.log2 < 1920
  | .name b => b ∈ ns
  | _ => True
def XFit (ns : List Bytes) (l : List XS) : Prop := (∀ x ∈ l, xFit ns x) ∧ l.length ≤ 200 ∧ costW (l.map wx) ≤ 20000
/-- a step of an agreement over the names ns -/
def SFit (ns : List Bytes) (x : St) : Prop := match x.d with
  | .exp e => XFit ns (postE e) ∧ (x.w = ascii "times" → Mx.wt e < 1920)
  | .cond c => XFit ns (postC c)
  | .num k => k < 10000000
  | .none => True
def Fit (ns : List Bytes) (a : Ag) : Prop := ∀ x ∈ post a, SFit ns x
/-! ## the first -/
theorem mem_postE {b : Bytes} : ∀ {e : Exp}, XS.name b ∈ postE e → b ∈ expNames e := by
  intro e
  induction e with
  | num n => intro h; simp [postE] at h
  | name c => intro h; simp [postE] at h; simp [expNames, h]
  | neg a ih => intro h; simp [postE] at h; exact ih h
  | _ a b iha ihb => intro h; simp [postE] at h; (rcases h with h | h <;> simp [expNames] <;> first | exact .inl (iha h) | exact .inr (ihb h))
theorem mem_postC {b : Bytes} : ∀ {e : Cond}, XS.name b ∈ postC e → b ∈ condNames e := by
  intro e
  induction e with
  | not a ih => intro h; simp [postC] at h; exact ih h
  | less a b => intro h; simp [postC] at h; (rcases h with h | h <;> simp [condNames] <;> first | exact .inl (mem_postE h) | exact .inr (mem_postE h))
  | same a b => intro h; simp [postC] at h; (rcases h with h | h <;> simp [condNames] <;> first | exact .inl (mem_postE h) | exact .inr (mem_postE h))
  | more a b => intro h; simp [postC] at h; (rcases h with h | h <;> simp [condNames] <;> first | exact .inl (mem_postE h) | exact .inr (mem_postE h))
  | and a b iha ihb => intro h; simp [postC] at h; (rcases h with h | h <;> simp [condNames] <;> first | exact .inl (iha h) | exact .inr (ihb h))
  | or a b iha ihb => intro h; simp [postC] at h; (rcases h with h | h <;> simp [condNames] <;> first | exact .inl (iha h) | exact .inr (ihb h))
def detNames : Det → List Bytes
  | .exp e => expNames e | .cond c => condNames c | _ => []
theorem mem_post {b : Bytes} {x : St} : ∀ {a : Ag}, x ∈ post a → b ∈ detNames x.d → b ∈ names a := by
  intro a
  induction a with
  | nothing => intro h hb; simp [post] at h; subst h; cases hb
  | pay e => intro h hb; simp [post] at h; subst h; exact hb
  | both a c iha ihb => intro h hb; simp [post] at h; simp [names]; rcases h with h | h | h; exact .inl (iha h hb); exact .inr (ihb h hb); (subst h; cases hb)
  | or a c iha ihb => intro h hb; simp [post] at h; simp [names]; rcases h with h | h | h; exact .inl (iha h hb); exact .inr (ihb h hb); (subst h; cases hb)
  | else_ a c iha ihb => intro h hb; simp [post] at h; simp [names]; rcases h with h | h | h; exact .inl (iha h hb); exact .inr (ihb h hb); (subst h; cases hb)
  | if_ q a c iha ihb => intro h hb; simp [post] at h; simp [names]; rcases h with h | h | h; exact .inr (.inl (iha h hb)); exact .inr (.inr (ihb h hb)); (subst h; exact .inl hb)
  | at_ k a ih => intro h hb; simp [post] at h; simp [names]; rcases h with h | h; exact ih h hb; (subst h; cases hb)
  | may k a ih => intro h hb; simp [post] at h; simp [names]; rcases h with h | h; exact ih h hb; (subst h; cases hb)
  | give a ih => intro h hb; simp [post] at h; simp [names]; rcases h with h | h; exact ih h hb; (subst h; cases hb)
  | times e a ih => intro h hb; simp [post] at h; simp [names]; rcases h with h | h; exact .inr (ih h hb); (subst h; exact .inl hb)
  | halt_ e a ih => intro h hb; simp [post] at h; simp [names]; rcases h with h | h; exact .inr (ih h hb); (subst h; exact .inl hb)
theorem digits_len (n : Nat) : ∀ k, n < 10 ^ (k + 1) → (ascii (toString n)).length ≤ k + 1 := by
  intro k h
  have e : (ascii (toString n)).length = (Nat.toDigits 10 n).length := by
    show ((toString n).toList.map _).length = _
    rw [List.length_map]
    show (Nat.repr n).toList.length = _
    simp [Nat.repr]
  rw [e]
  exact (Nat.length_toDigits_le_iff (by decide) (by omega)).mpr h
theorem cost_app (a b : WS) : costW (a ++ b) = costW a + costW b := by simp [costW]
theorem cost_of {l : List XS} (h : XsOk l) : costW (l.map wx) ≤ 68 * l.length := by
  induction l with
  | nil => simp [costW]
  | cons x l ih =>
    have h1 := ih fun y hy => h y (by simp [hy])
    have h2 := h x (by simp)
    have h3 : costW ((x :: l).map wx) = (dtX x).length + 60 + costW (l.map wx) := by simp [costW]
    have h4 : (dtX x).length ≤ 8 := by
      cases x with
      | num n => have := digits_len n 6 h2; show (ascii (toString n)).length ≤ 8; omega
      | name b => exact h2.2.1
      | _ => show 0 ≤ 8; omega
    rw [h3, List.length_cons]; omega
theorem xfit_of {ns : List Bytes} {l : List XS} (h : XsOk l) (hl : l.length ≤ 200) (hn : ∀ b, XS.name b ∈ l → b ∈ ns) : XFit ns l := by
  refine ⟨fun x hx => ?_, hl, Nat.le_trans (cost_of h) (by omega)⟩
  have := h x hx
  cases x with
  | num n =>
    show n.log2 < 1920
    by_cases z : n = 0
    · subst z; decide
    · have : n < 2 ^ 24 := Nat.lt_of_lt_of_le this (by decide)
      have := log2_lt z this
      omega
  | name b => exact hn b hx
  | _ => trivial
theorem fit_read {t : Bytes} {a : Ag} (h : readText t = .ok a) (ht : t.length ≤ 200) : Fit (once (names a)) a ∧ (post a).length ≤ 200 := by
  obtain ⟨h1, h2⟩ := read_fine h
  refine ⟨fun x hx => ?_, by omega⟩
  have mo : ∀ b, b ∈ names a → b ∈ once (names a) := by
    have : ∀ (l acc : List Bytes) (b : Bytes), (b ∈ acc ∨ b ∈ l) → b ∈ l.foldl (fun (a : List Bytes) (x : Bytes) => if a.contains x = true then a else a ++ [x]) acc := by
      intro l
      induction l with
      | nil => intro acc b h; rcases h with h | h; exact h; cases h
      | cons y l ih =>
        intro acc b h
        rw [List.foldl_cons]
        refine ih _ b ?_
        by_cases c : acc.contains y = true
        · rw [if_pos c]
          rcases h with h | h
          · exact .inl h
          · rcases List.mem_cons.mp h with rfl | h
            · exact .inl (by simpa using c)
            · exact .inr h
        · rw [if_neg c]
          rcases h with h | h
          · exact .inl (by simp [h])
          · rcases List.mem_cons.mp h with rfl | h
            · exact .inl (by simp)
            · exact .inr h
    exact fun b hb => this _ _ b (.inr hb)
  have k := h1 x hx
  have km : ∀ b, b ∈ detNames x.d → b ∈ once (names a) := fun b hb => mo b (mem_post hx hb)
  obtain ⟨w, d⟩ := x
  cases d with
  | none => trivial
  | num k' => exact k
  | exp e =>
    obtain ⟨k1, k2, k3⟩ := k
    refine ⟨xfit_of k1 (by omega) fun b hb => km b (mem_postE hb), fun q => ?_⟩
    have := k3 q
    omega
  | cond c =>
    obtain ⟨k1, k2⟩ := k
    exact xfit_of k1 (by omega) fun b hb => km b (mem_postC hb)
/-! ## from day to day -/
theorem fit_lit {ns : List Bytes} {z : Int} (h : z.natAbs.log2 < 1920) : XFit ns (postE (lit z)) := by
  have hd : (ascii (toString z.natAbs)).length ≤ 1921 := by
    by_cases c : z.natAbs = 0
    · rw [c]; decide
    · refine Nat.le_trans (digits_len z.natAbs 1920 ?_) (by omega)
      have : z.natAbs < 2 ^ 1920 := (Nat.log2_lt c).mp h
      exact Nat.lt_of_lt_of_le this (Nat.le_trans (Nat.pow_le_pow_left (by decide) 1920) (Nat.pow_le_pow_right (by decide) (by decide)))
  unfold lit
  split
  · refine ⟨fun x hx => ?_, by show 2 ≤ 200; omega, ?_⟩
    · simp [postE] at hx
      rcases hx with rfl | rfl
      · exact h
      · trivial
    · show (ascii (toString z.natAbs)).length + 60 + (0 + 60 + 0) ≤ 20000; omega
  · refine ⟨fun x hx => ?_, by show 1 ≤ 200; omega, ?_⟩
    · simp [postE] at hx
      subst hx
      exact h
    · show (ascii (toString z.natAbs)).length + 60 + 0 ≤ 20000; omega
theorem fit_nothing {ns : List Bytes} : Fit ns .nothing := fun x hx => by
  rw [post, List.mem_singleton] at hx; subst hx; trivial
theorem Fit.app1 {ns : List Bytes} {a c : Ag} {o : St} (h : Fit ns c) (e : post c = post a ++ [o]) : Fit ns a ∧ SFit ns o := ⟨fun x hx => h x (by rw [e]; simp [hx]), h o (by rw [e]; simp)⟩
theorem Fit.app2 {ns : List Bytes} {a b c : Ag} {o : St} (h : Fit ns c) (e : post c = post a ++ post b ++ [o]) : Fit ns a ∧ Fit ns b ∧ SFit ns o := ⟨fun x hx => h x (by rw [e]; simp [hx]), fun x hx => h x (by rw [e]; simp [hx]), h o (by rw [e]; simp)⟩
theorem Fit.mk1 {ns : List Bytes} {a c : Ag} {o : St} (h : Fit ns a) (ho : SFit ns o) (e : post c = post a ++ [o]) : Fit ns c := fun x hx => by
  rw [e] at hx
  rcases List.mem_append.mp hx with hx | hx
  · exact h x hx
  · rw [List.mem_singleton] at hx; subst hx; exact ho
theorem Fit.mk2 {ns : List Bytes} {a b c : Ag} {o : St} (h : Fit ns a) (h' : Fit ns b) (ho : SFit ns o) (e : post c = post a ++ post b ++ [o]) : Fit ns c := fun x hx => by
  rw [e] at hx
  rcases List.mem_append.mp hx with hx | hx
  · rcases List.mem_append.mp hx with hx | hx
    · exact h x hx
    · exact h' x hx
  · rw [List.mem_singleton] at hx; subst hx; exact ho
theorem fit_both {ns : List Bytes} {a b : Ag} (h : Fit ns a) (h' : Fit ns b) : Fit ns (bothOf a b) := by
  by_cases h1 : a = .nothing
  · subst h1; exact h'
  · by_cases h2 : b = .nothing
    · subst h2
      have : bothOf a .nothing = a := by cases a <;> rfl
      rw [this]; exact h
    · rw [bothOf_ne h1 h2]; exact h.mk2 h' (o := st "and") trivial rfl
theorem fit_give {ns : List Bytes} {a : Ag} (h : Fit ns a) : Fit ns (giveOf a) := by
  by_cases h1 : a = .nothing
  · subst h1; exact h
  · rw [giveOf_ne h1]; exact h.mk1 (o := st "give") trivial rfl
theorem fit_stop {ns : List Bytes} {a : Ag} {c : Cond} (h : Fit ns a) (hc : SFit ns (st "stop" (.cond c))) : Fit ns (stopOf c a) := by
  by_cases h1 : a = .nothing
  · subst h1; exact h
  · rw [stopOf_ne h1]; exact h.mk1 hc rfl
theorem fit_times {ns : List Bytes} {a : Ag} {z : Int} (h0 : z ≠ 0) (h : Fit ns a) (hz : z.natAbs < 2 ^ 1919) : Fit ns (timesOf z a) := by
  by_cases h1 : a = .nothing
  · subst h1; exact h
  · rw [timesOf_ne h0 h1]
    have h2 := wt_lit h0 hz
    have h3 : z.natAbs.log2 + 1 ≤ 1919 := log2_lt (by omega) hz
    exact h.mk1 (o := st "times" (.exp (lit z))) ⟨fit_lit (by omega), fun _ => by show Mx.wt (lit z) < 1920; omega⟩ rfl
theorem len_both (a b : Ag) : (post (bothOf a b)).length ≤ (post a).length + (post b).length + 1 := by
  by_cases h1 : a = .nothing
  · subst h1; show (post b).length ≤ _; omega
  · by_cases h2 : b = .nothing
    · subst h2
      have : bothOf a .nothing = a := by cases a <;> rfl
      rw [this]; omega
    · rw [bothOf_ne h1 h2]; simp [post]; omega
theorem len_give (a : Ag) : (post (giveOf a)).length ≤ (post a).length + 1 := by
  by_cases h1 : a = .nothing
  · subst h1; show 1 ≤ _; omega
  · rw [giveOf_ne h1]; simp [post]
theorem len_stop (c : Cond) (a : Ag) : (post (stopOf c a)).length ≤ (post a).length + 1 := by
  by_cases h1 : a = .nothing
  · subst h1; show 1 ≤ _; omega
  · rw [stopOf_ne h1]; simp [post]
theorem len_times {z : Int} (h0 : z ≠ 0) (a : Ag) : (post (timesOf z a)).length ≤ (post a).length + 1 := by
  by_cases h1 : a = .nothing
  · subst h1; show 1 ≤ _; omega
  · rw [timesOf_ne h0 h1]; simp [post]
theorem fit_run {ns : List Bytes} {t : Nat} {v : Seen} (hv : Small v) : ∀ {a : Ag}, Fit ns a → Fit ns (run t v a).1 ∧ (post (run t v a).1).length ≤ (post a).length
  | .nothing, h => ⟨h, Nat.le_refl _⟩
  | .pay e, h => ⟨fit_nothing, by show 1 ≤ _; simp [post]⟩
  | .both a b, h => by
    obtain ⟨h1, h2, _⟩ := h.app2 (o := st "and") rfl
    obtain ⟨i1, i2⟩ := fit_run (t := t) hv h1
    obtain ⟨j1, j2⟩ := fit_run (t := t) hv h2
    refine ⟨fit_both i1 j1, Nat.le_trans (len_both _ _) ?_⟩
    simp [post]; omega
  | .or a b, h => ⟨h, Nat.le_refl _⟩
  | .else_ a b, h => ⟨h, Nat.le_refl _⟩
  | .at_ k a, h => by
    obtain ⟨h1, _⟩ := h.app1 (o := st "at" (.num k)) rfl
    obtain ⟨i1, i2⟩ := fit_run (t := t) hv h1
    show Fit ns (if k ≤ t then run t v a else (.at_ k a, 0)).1 ∧ (post (if k ≤ t then run t v a else (.at_ k a, 0)).1).length ≤ _
    by_cases c : k ≤ t
    · rw [if_pos c]; exact ⟨i1, by simp [post]; omega⟩
    · rw [if_neg c]; exact ⟨h, Nat.le_refl _⟩
  | .may k a, h => by
    show Fit ns (if k < t then (Ag.nothing, (0 : Int)) else (.may k a, 0)).1 ∧ (post (if k < t then (Ag.nothing, (0 : Int)) else (.may k a, 0)).1).length ≤ _
    by_cases c : k < t
    · rw [if_pos c]; exact ⟨fit_nothing, by show 1 ≤ _; simp [post]⟩
    · rw [if_neg c]; exact ⟨h, Nat.le_refl _⟩
  | .if_ c a b, h => by
    obtain ⟨h1, h2, _⟩ := h.app2 (o := st "if" (.cond c)) rfl
    obtain ⟨i1, i2⟩ := fit_run (t := t) hv h1
    obtain ⟨j1, j2⟩ := fit_run (t := t) hv h2
    show Fit ns (if holds v c = true then run t v a else run t v b).1 ∧ (post (if holds v c = true then run t v a else run t v b).1).length ≤ _
    by_cases q : holds v c = true
    · rw [if_pos q]; exact ⟨i1, by simp [post]; omega⟩
    · rw [if_neg q]; exact ⟨j1, by simp [post]; omega⟩
  | .give a, h => by
    obtain ⟨h1, _⟩ := h.app1 (o := st "give") rfl
    obtain ⟨i1, i2⟩ := fit_run (t := t) hv h1
    exact ⟨fit_give i1, Nat.le_trans (len_give _) (by simp [post]; omega)⟩
  | .times e a, h => by
    obtain ⟨h1, h3, h4⟩ := h.app1 (o := st "times" (.exp e)) rfl
    obtain ⟨i1, i2⟩ := fit_run (t := t) hv h1
    show Fit ns (if ev v e = 0 then (Ag.nothing, (0 : Int)) else (timesOf (ev v e) (run t v a).1, ev v e * (run t v a).2)).1 ∧ (post (if ev v e = 0 then (Ag.nothing, (0 : Int)) else (timesOf (ev v e) (run t v a).1, ev v e * (run t v a).2)).1).length ≤ _
    by_cases c : ev v e = 0
    · rw [if_pos c]; exact ⟨fit_nothing, by show 1 ≤ _; simp [post]⟩
    · rw [if_neg c]
      have w := h4 rfl
      have h5 := ev_lt hv e
      exact ⟨fit_times c i1 (Nat.lt_of_lt_of_le h5 (Nat.pow_le_pow_right (by decide) (by show Mx.wt e ≤ 1919; omega))), Nat.le_trans (len_times c _) (by simp [post]; omega)⟩
  | .halt_ c a, h => by
    obtain ⟨h1, h3⟩ := h.app1 (o := st "stop" (.cond c)) rfl
    obtain ⟨i1, i2⟩ := fit_run (t := t) hv h1
    show Fit ns (if holds v c = true then (Ag.nothing, (0 : Int)) else (stopOf c (run t v a).1, (run t v a).2)).1 ∧ (post (if holds v c = true then (Ag.nothing, (0 : Int)) else (stopOf c (run t v a).1, (run t v a).2)).1).length ≤ _
    by_cases q : holds v c = true
    · rw [if_pos q]; exact ⟨fit_nothing, by show 1 ≤ _; simp [post]⟩
    · rw [if_neg q]; exact ⟨fit_stop i1 h3, Nat.le_trans (len_stop _ _) (by simp [post]; omega)⟩
theorem fit_chosen {ns : List Bytes} (w : Bool) : ∀ {a : Ag} (i : Nat), Fit ns a → Fit ns (chosen w i a) ∧ (post (chosen w i a)).length ≤ (post a).length
  | .both a b, i, h => by
    obtain ⟨h1, h2, h3⟩ := h.app2 (o := st "and") rfl
    obtain ⟨i1, i2⟩ := fit_chosen w i h1
    obtain ⟨j1, j2⟩ := fit_chosen w (i - (waits false a).length) h2
    rw [chosen]
    split
    · exact ⟨i1.mk2 h2 h3 rfl, by simp [post]; omega⟩
    · exact ⟨h1.mk2 j1 h3 rfl, by simp [post]; omega⟩
  | .or a b, i, h => by
    obtain ⟨h1, h2, h3⟩ := h.app2 (o := st "or") rfl
    show Fit ns (if w = true then b else a) ∧ (post (if w = true then b else a)).length ≤ _
    split
    · exact ⟨h2, by simp [post]; omega⟩
    · exact ⟨h1, by simp [post]⟩
  | .else_ a b, i, h => by
    obtain ⟨h1, h2, h3⟩ := h.app2 (o := st "else") rfl
    show Fit ns (if w = true then b else a) ∧ (post (if w = true then b else a)).length ≤ _
    split
    · exact ⟨h2, by simp [post]; omega⟩
    · exact ⟨h1, by simp [post]⟩
  | .may k a, i, h => by
    obtain ⟨h1, _⟩ := h.app1 (o := st "may" (.num k)) rfl
    exact ⟨h1, by show (post a).length ≤ _; simp [post]⟩
  | .give a, i, h => by
    obtain ⟨h1, h2⟩ := h.app1 (o := st "give") rfl
    obtain ⟨i1, i2⟩ := fit_chosen w i h1
    exact ⟨i1.mk1 h2 rfl, by simp [chosen, post]; omega⟩
  | .times e a, i, h => by
    obtain ⟨h1, h2⟩ := h.app1 (o := st "times" (.exp e)) rfl
    obtain ⟨i1, i2⟩ := fit_chosen w i h1
    exact ⟨i1.mk1 h2 rfl, by simp [chosen, post]; omega⟩
  | .halt_ e a, i, h => by
    obtain ⟨h1, h2⟩ := h.app1 (o := st "stop" (.cond e)) rfl
    obtain ⟨i1, i2⟩ := fit_chosen w i h1
    exact ⟨i1.mk1 h2 rfl, by simp [chosen, post]; omega⟩
  | .nothing, _, h => ⟨h, Nat.le_refl _⟩
  | .pay _, _, h => ⟨h, Nat.le_refl _⟩
  | .at_ _ _, _, h => ⟨h, Nat.le_refl _⟩
  | .if_ _ _ _, _, h => ⟨h, Nat.le_refl _⟩
end Mx
end
section
set_option Elab.async false
set_option linter.all false
set_option maxRecDepth 100000
set_option autoImplicit false
/-! dicts of the module with keys of ints or texts, or of tuples of these -/
namespace L2
open PySem PySem.Spec PyProof.Rows
/-- a dict of the module whose keys are ints or texts -/
def KMix (P : Program) (w : World) (K : PySem.W.Frag) (d : Addr) (f : Key → Option Value) : Prop :=
  ∃ (es : Array DictEntry) (n : Nat), K.lookup d = some ⟨.type "dict", none, .dict es n, #[]⟩ ∧ KeysOf (mixKind P w) es ∧ (∀ k, findBy (mixKind P w).is es k = f k) ∧ (d == sysModules) = false
theorem KMix.map {P : Program} {w : World} {K : PySem.W.Frag} {d : Addr} {f : Key → Option Value} {h : Heap} (m : KMix P w K d f) (i : K.In h) : h.MapOf (mixKind P w) d f := by
  obtain ⟨es, n, l, k, e, _⟩ := m
  exact ⟨_, es, n, i _ _ l, ⟨rfl, rfl, rfl⟩, rfl, k, e⟩
/-- .. tuples of ints and texts -/
def KTup (P : Program) (w : World) (K : PySem.W.Frag) (d : Addr) (xs : List (List Key × Addr × Value)) : Prop :=
  ∃ (es : Array DictEntry) (n : Nat), K.lookup d = some ⟨.type "dict", none, .dict es n, #[]⟩ ∧ es.toList = xs.map (entryOfKey (tupleKind (mixKind P w))) ∧
    (∀ x ∈ xs, ∃ o items m, K.lookup x.2.1 = some o ∧ o.cls = .type "tuple" ∧ o.data = .seq items m ∧ ItemsAre (mixKind P w) x.1 items.toList) ∧ (xs.map (·.1)).Nodup ∧ (d == sysModules) = false
theorem KTup.dict {P : Program} {w : World} {K : PySem.W.Frag} {d : Addr} {xs : List (List Key × Addr × Value)} {h : Heap} (m : KTup P w K d xs) (i : K.In h) : h.DictOfH (tupleKind (mixKind P w)) d xs := by
  obtain ⟨es, n, l, e, k, nd, _⟩ := m
  refine ⟨_, es, n, i _ _ l, ⟨rfl, rfl, rfl⟩, rfl, e, fun x hx => ?_, nd⟩
  obtain ⟨o, items, m, lo, c, dd, it⟩ := k x hx
  exact ⟨o, items, m, i _ _ lo, c, dd, it⟩
section
variable {X : Cx}
theorem op_in_kmix : OpR X (compareOp .In) (fun x y H Q => ∃ d k f, x = kV k ∧ y = .ref d ∧ KMix X.prog X.w X.K d f ∧ Q (.bl (f k).isSome) H) := by
  intro pins s σ H x y v u Q I rx ry h
  obtain ⟨d, k, f, rfl, rfl, m, q⟩ := h
  obtain rfl : u = Value.ref d := ry
  have lo : (d == sysModules) = false := m.choose_spec.choose_spec.2.2.2
  exact wpAny_in_of (kV_is rx) lo (m.map I.kIn) ⟨.bl (f k).isSome, H, I.tok _, rfl, q⟩
theorem ix_kmix : IxR X (fun x y H Q => ∃ d k f u v, x = .ref d ∧ y = kV k ∧ KMix X.prog X.w X.K d f ∧ f k = some u ∧ RelV v u ∧ Q v H) := by
  intro value slice pins s σ H x y v u Q I rx ry h hs
  obtain ⟨d, k, f, u0, r, rfl, rfl, m, e, ru, q⟩ := h
  obtain rfl : v = Value.ref d := rx
  have hm := m.map I.kIn
  exact tail_any hm.typeIs slot_dict_getitem.lookup (wpAny_getItem_of (kV_is ry) hm e ⟨r, H, I.tok _, ru, q⟩) hs
theorem op_in_ktup (hu : X.A.units + 1 < cLine) : OpR X (compareOp .In) (fun x y H Q => ∃ d b ks xs, x = .ref b ∧ y = .ref d ∧ H b = some (.tup (ks.map kV)) ∧ KTup X.prog X.w X.K d xs ∧ Q (.bl (atKey xs ks).isSome) H) := by
  intro pins s σ H x y v u Q I rx ry h
  obtain ⟨d, b, ks, xs, rfl, rfl, eb, m, q⟩ := h
  obtain rfl : v = Value.ref b := rx
  obtain rfl : u = Value.ref d := ry
  have lo : (d == sysModules) = false := m.choose_spec.choose_spec.2.2.2.2
  exact wpAny_in_heap (tupleKind_room_in1 hu) (key_of I.hok eb) lo (m.dict I.kIn) ⟨.bl _, H, I.tok _, rfl, q⟩
theorem ix_ktup (hu : X.A.units + 1 < cLine) : IxR X (fun x y H Q => ∃ d b ks xs p v, x = .ref d ∧ y = .ref b ∧ H b = some (.tup (ks.map kV)) ∧ KTup X.prog X.w X.K d xs ∧ atKey xs ks = some p ∧ RelV v p.2 ∧ Q v H) := by
  intro value slice pins s σ H x y v u Q I rx ry h hs
  obtain ⟨d, b, ks, xs, p, r, rfl, rfl, eb, m, e, ru, q⟩ := h
  obtain rfl : v = Value.ref d := rx
  obtain rfl : u = Value.ref b := ry
  have hm := m.dict I.kIn
  exact tail_any hm.typeIs slot_dict_getitem.lookup (wpAny_getItem_heap (tupleKind_room_in1 hu) (key_of I.hok eb) hm e ⟨r, H, I.tok _, ru, q⟩) hs
end
end L2
end
section
set_option Elab.async false
set_option linter.all false
set_option maxRecDepth 100000
set_option maxHeartbeats 2000000
set_option autoImplicit false
namespace Bd
open PySem PySem.Spec PyProof.Rows L2
abbrev FnP (K : PySem.W.Frag) (x : Str) (st : Stmt) (f : Addr) (fd : FuncData) : Prop := L2.Fun K x x st f fd
/-- an int of the top -/
def IntG (mg : Str → Option Value) (x : Str) (i : Int) : Prop := ∃ t, mg x = some (.int i t)
theorem pe_gint {X : Cx} {x : Str} {i : Int} {pos : Pos} (h : IntG X.mg x i) (hg : Gl X x := by rfl) (hd : (x == ("__debug__" : Str)) = false := by decide) : PE X (.Name x pos) (tC (.int i)) := by
  obtain ⟨t, h⟩ := h
  exact pe_glob (v := .int i) hg h ⟨t, rfl⟩ hd
section
variable {P : Program} {w : World} {K : PySem.W.Frag} {mg : Str → Option Value} {base : Heap} {f : Addr} {fd : FuncData}
/-! ## is_letter -/
abbrev sLetter : Stmt := top 47
def spLetter : Sp := fun vs H Q _ => ∃ n : Int, vs = [.int n] ∧ Q (.bl (decide (97 ≤ n) && decide (n < 123))) H
theorem scLetter : FnScope ["byte"] ["byte"] (defScope sLetter) := ⟨rfl, rfl, rfl, by decide +kernel, rfl, by decide +kernel, by decide +kernel⟩
theorem ok_letter (F : FnP K "is_letter" sLetter f fd) (g : IntG mg "FIRST_LETTER" 97) : FnOk P w K mg base CX0 1 f fd ["byte"] spLetter := by
  refine F.ok scLetter (fun vs H Q E h => ?_) (fun cdv A outer s H vs Q E hr h => ⟨_, (pss_one (ps_ret (pe_chain op_le op_lt (pe_gint g) (pv 0) (pe_op op_add (pe_gint g) pe_int)))), ?_⟩)
  · obtain ⟨n, rfl, _⟩ := h
    rfl
  · obtain ⟨n, rfl, q⟩ := h
    refine ⟨_, rfl, _, _, rfl, rfl, _, rfl, ?_⟩
    by_cases c : (97 : Int) ≤ n
    · rw [decide_eq_true c] at q ⊢
      refine ⟨_, _, rfl, rfl, _, _, rfl, rfl, ?_⟩
      exact q
    · rw [decide_eq_false c] at q ⊢
      exact q
/-! ## word_end -/
abbrev sWordEnd : Stmt := top 49
def nats (l : List Nat) : List V := l.map fun (n : Nat) => V.int (n : Int)
def spWordEnd (K : PySem.W.Frag) : Sp := fun vs H Q _ => ∃ (a : Addr) (bs : List Nat) (p : Nat), vs = [.ref a, .int p] ∧ SqL K H a (nats bs) ∧ p ≤ bs.length ∧ Q (.int (p + ((bs.drop p).takeWhile Co01.small).length : Nat)) H
theorem scWordEnd : FnScope ["text", "place"] ["text", "place"] (defScope sWordEnd) := ⟨rfl, rfl, rfl, by decide +kernel, rfl, by decide +kernel, by decide +kernel⟩
theorem ok_wordEnd {f1 : Addr} {fd1 : FuncData} (F : FnP K "word_end" sWordEnd f fd) (F1 : FnP K "is_letter" sLetter f1 fd1) (g1 : mg "is_letter" = some (.ref f1)) (gL : mg "len" = none) (g : IntG mg "FIRST_LETTER" 97) :
    FnOk P w K mg base CX0 2 f fd ["text", "place"] (spWordEnd K) := by
  have G1 : FnOk P w K mg base CX0 1 f1 fd1 ["byte"] spLetter := ok_letter F1 g
  have b1 : Binds K fd1 ["byte"] [] := F1.binds fun _ _ _ _ _ _ us hl => match us, hl with | [_], _ => rfl
  refine F.ok scWordEnd (fun vs H Q E h => ?_) (fun cdv A outer s H vs Q E hr h => ⟨_, (pss_cons (ps_while PassesOwn.never (PW.pt (pw_and (pt_cmpR op_lt (pv 1) (pe_callB call_len_seq rfl gL PySem.boot_len (pa_cons (pv 0) pa_nil)) (nomark _))
      (pw_and1 (pt_val (pe_call G1 hr rfl g1 F1.kp b1 .nil pass0 (pa_cons (pe_ix ix_list (pv 0) (pv 1) (fun _ _ => rfl)) pa_nil))))))
      (pss_one (ps_aug (i := 1) scWordEnd.nd rfl (.inl rfl) pe_int ip_add)))
    (pss_one (ps_ret (pv 1)))), ?_⟩)
  · obtain ⟨a, bs, p, rfl, _⟩ := h
    rfl
  · obtain ⟨a, bs, p, rfl, hS, hp, q⟩ := h
    refine ⟨fun n σ H' => ∃ j : Nat, σ = [some (.ref a), some (.int j)] ∧ H' = H ∧ j ≤ bs.length ∧ n = bs.length - j ∧ p + ((bs.drop p).takeWhile Co01.small).length = j + ((bs.drop j).takeWhile Co01.small).length,
      ⟨_, p, rfl, rfl, hp, rfl, rfl⟩, ?_⟩
    · rintro n σ H' ⟨j, rfl, rfl, hj, rfl, e⟩
      refine ⟨_, rfl, _, rfl, a, nats bs, rfl, .inl hS, _, _, rfl, rfl, _, rfl, ?_⟩
      have hlen : (nats bs).length = bs.length := by simp [nats]
      rw [hlen]
      by_cases c : j < bs.length
      · have hb : bs[j]? = some bs[j] := List.getElem?_eq_getElem c
        have hd : bs.drop j = bs[j] :: bs.drop (j + 1) := List.drop_eq_getElem_cons c
        rw [decide_eq_true (show (j : Int) < (bs.length : Int) by omega)]
        refine ⟨_, rfl, _, rfl, a, nats bs, _, V.int bs[j], rfl, rfl, hS, atI_nat (by simp [nats, hb]), bs[j], rfl, _, rfl, ?_⟩
        by_cases k : Co01.small bs[j] = true
        · have k2 : (decide ((97 : Int) ≤ (bs[j] : Int)) && decide ((bs[j] : Int) < 123)) = true := by
            simp [Co01.small] at k ⊢; omega
          rw [k2]
          refine ⟨_, fun _ _ h => h, ?_⟩
          refine ⟨_, rfl, _, _, rfl, rfl, bs.length - (j + 1), by omega, j + 1, rfl, rfl, by omega, rfl, ?_⟩
          rw [e, hd, List.takeWhile_cons, if_pos k, List.length_cons]; omega
        · have k2 : (decide ((97 : Int) ≤ (bs[j] : Int)) && decide ((bs[j] : Int) < 123)) = false := by
            simp [Co01.small] at k ⊢; omega
          rw [k2]
          refine ⟨_, rfl, ?_⟩
          rw [hd, List.takeWhile_cons, if_neg k] at e
          rw [e] at q
          exact q
      · rw [decide_eq_false (show ¬ (j : Int) < (bs.length : Int) by omega)]
        refine ⟨_, rfl, ?_⟩
        have : bs.drop j = [] := List.drop_eq_nil_of_le (by omega)
        rw [this] at e
        rw [e] at q
        exact q
/-! ## is_digit, number_end -/
abbrev sDigit : Stmt := top 48
def spDigit : Sp := fun vs H Q _ => ∃ n : Int, vs = [.int n] ∧ Q (.bl (decide (48 ≤ n) && decide (n < 58))) H
theorem scDigit : FnScope ["byte"] ["byte"] (defScope sDigit) := ⟨rfl, rfl, rfl, by decide +kernel, rfl, by decide +kernel, by decide +kernel⟩
theorem ok_digit (F : FnP K "is_digit" sDigit f fd) (g : IntG mg "FIRST_DIGIT" 48) : FnOk P w K mg base CX0 1 f fd ["byte"] spDigit := by
  refine F.ok scDigit (fun vs H Q E h => ?_) (fun cdv A outer s H vs Q E hr h => ⟨_, (pss_one (ps_ret (pe_chain op_le op_lt (pe_gint g) (pv 0) (pe_op op_add (pe_gint g) pe_int)))), ?_⟩)
  · obtain ⟨n, rfl, _⟩ := h
    rfl
  · obtain ⟨n, rfl, q⟩ := h
    refine ⟨_, rfl, _, _, rfl, rfl, _, rfl, ?_⟩
    by_cases c : (48 : Int) ≤ n
    · rw [decide_eq_true c] at q ⊢
      exact ⟨_, _, rfl, rfl, _, _, rfl, rfl, q⟩
    · rw [decide_eq_false c] at q ⊢
      exact q
abbrev sNumEnd : Stmt := top 50
def spNumEnd (K : PySem.W.Frag) : Sp := fun vs H Q _ => ∃ (a : Addr) (bs : List Nat) (p : Nat), vs = [.ref a, .int p] ∧ SqL K H a (nats bs) ∧ p ≤ bs.length ∧ Q (.int (p + ((bs.drop p).takeWhile Co01.digit).length : Nat)) H
theorem scNumEnd : FnScope ["text", "place"] ["text", "place"] (defScope sNumEnd) := ⟨rfl, rfl, rfl, by decide +kernel, rfl, by decide +kernel, by decide +kernel⟩
theorem ok_numEnd {f1 : Addr} {fd1 : FuncData} (F : FnP K "number_end" sNumEnd f fd) (F1 : FnP K "is_digit" sDigit f1 fd1) (g1 : mg "is_digit" = some (.ref f1)) (gL : mg "len" = none) (g : IntG mg "FIRST_DIGIT" 48) :
    FnOk P w K mg base CX0 2 f fd ["text", "place"] (spNumEnd K) := by
  have G1 : FnOk P w K mg base CX0 1 f1 fd1 ["byte"] spDigit := ok_digit F1 g
  have b1 : Binds K fd1 ["byte"] [] := F1.binds fun _ _ _ _ _ _ us hl => match us, hl with | [_], _ => rfl
  refine F.ok scNumEnd (fun vs H Q E h => ?_) (fun cdv A outer s H vs Q E hr h => ⟨_, (pss_cons (ps_while PassesOwn.never (PW.pt (pw_and (pt_cmpR op_lt (pv 1) (pe_callB call_len_seq rfl gL PySem.boot_len (pa_cons (pv 0) pa_nil)) (nomark _))
      (pw_and1 (pt_val (pe_call G1 hr rfl g1 F1.kp b1 .nil pass0 (pa_cons (pe_ix ix_list (pv 0) (pv 1) (fun _ _ => rfl)) pa_nil))))))
      (pss_one (ps_aug (i := 1) scNumEnd.nd rfl (.inl rfl) pe_int ip_add)))
    (pss_one (ps_ret (pv 1)))), ?_⟩)
  · obtain ⟨a, bs, p, rfl, _⟩ := h
    rfl
  · obtain ⟨a, bs, p, rfl, hS, hp, q⟩ := h
    refine ⟨fun n σ H' => ∃ j : Nat, σ = [some (.ref a), some (.int j)] ∧ H' = H ∧ j ≤ bs.length ∧ n = bs.length - j ∧ p + ((bs.drop p).takeWhile Co01.digit).length = j + ((bs.drop j).takeWhile Co01.digit).length,
      ⟨_, p, rfl, rfl, hp, rfl, rfl⟩, ?_⟩
    · rintro n σ H' ⟨j, rfl, rfl, hj, rfl, e⟩
      refine ⟨_, rfl, _, rfl, a, nats bs, rfl, .inl hS, _, _, rfl, rfl, _, rfl, ?_⟩
      have hlen : (nats bs).length = bs.length := by simp [nats]
      rw [hlen]
      by_cases c : j < bs.length
      · have hb : bs[j]? = some bs[j] := List.getElem?_eq_getElem c
        have hd : bs.drop j = bs[j] :: bs.drop (j + 1) := List.drop_eq_getElem_cons c
        rw [decide_eq_true (show (j : Int) < (bs.length : Int) by omega)]
        refine ⟨_, rfl, _, rfl, a, nats bs, _, V.int bs[j], rfl, rfl, hS, atI_nat (by simp [nats, hb]), bs[j], rfl, _, rfl, ?_⟩
        by_cases k : Co01.digit bs[j] = true
        · have k2 : (decide ((48 : Int) ≤ (bs[j] : Int)) && decide ((bs[j] : Int) < 58)) = true := by
            simp [Co01.digit] at k ⊢; omega
          rw [k2]
          refine ⟨_, fun _ _ h => h, ?_⟩
          refine ⟨_, rfl, _, _, rfl, rfl, bs.length - (j + 1), by omega, j + 1, rfl, rfl, by omega, rfl, ?_⟩
          rw [e, hd, List.takeWhile_cons, if_pos k, List.length_cons]; omega
        · have k2 : (decide ((48 : Int) ≤ (bs[j] : Int)) && decide ((bs[j] : Int) < 58)) = false := by
            simp [Co01.digit] at k ⊢; omega
          rw [k2]
          refine ⟨_, rfl, ?_⟩
          rw [hd, List.takeWhile_cons, if_neg k] at e
          rw [e] at q
          exact q
      · rw [decide_eq_false (show ¬ (j : Int) < (bs.length : Int) by omega)]
        refine ⟨_, rfl, ?_⟩
        have : bs.drop j = [] := List.drop_eq_nil_of_le (by omega)
        rw [this] at e
        rw [e] at q
        exact q
/-! ## number_token -/
theorem tOr_by {t u : TT} {σ : L2.St} {H : Hp} {Q : Bool → Hp → Prop} (b1 b2 : Bool) (ht : ∀ R : Bool → Hp → Prop, R b1 H → t σ H R) (hu : b1 = false → ∀ R : Bool → Hp → Prop, R b2 H → u σ H R) (q : Q (b1 || b2) H) : tOr t u σ H Q := by
  refine ht _ ?_
  cases b1 with
  | true => exact q
  | false => exact hu rfl _ q
theorem tAnd_by {t u : TT} {σ : L2.St} {H : Hp} {Q : Bool → Hp → Prop} (b1 b2 : Bool) (ht : ∀ R : Bool → Hp → Prop, R b1 H → t σ H R) (hu : b1 = true → ∀ R : Bool → Hp → Prop, R b2 H → u σ H R) (q : Q (b1 && b2) H) : tAnd t u σ H Q := by
  refine ht _ ?_
  cases b1 with
  | false => exact q
  | true => exact hu rfl _ q
abbrev sNumTok : Stmt := top 52
def BadNum (w : List Nat) : Prop := 7 < w.length ∨ (1 < w.length ∧ w.head? = some 48)
instance (w : List Nat) : Decidable (BadNum w) := by unfold BadNum; infer_instance
theorem cutV_nats (bs : List Nat) {p q : Nat} (h : p ≤ q) (hq : q ≤ bs.length) : cutV (nats bs) (some (p : Int)) (some (q : Int)) = nats ((bs.drop p).take (q - p)) := by
  unfold cutV
  rw [HT.sIx_nat, HT.sIx_nat, show (nats bs).length = bs.length by simp [nats], Nat.min_eq_left hq, Nat.min_eq_left (Nat.le_trans h hq)]
  simp [nats, List.map_take, List.map_drop]
theorem valueOf_take {w : List Nat} {i b : Nat} (h : w[i]? = some b) (hd : Co01.digit b = true) : (Co01.valueOf (w.take (i + 1)) : Int) = (Co01.valueOf (w.take i) : Int) * 10 + b - 48 := by
  have e : w.take (i + 1) = w.take i ++ [b] := by
    rw [List.take_add_one, h]
    rfl
  unfold Co01.valueOf
  rw [e, List.foldl_append]
  simp [Co01.digit] at hd ⊢
  omega
theorem valueOf_lt {w : List Nat} (h : ∀ c ∈ w, Co01.digit c = true) : ∀ n : Nat, w.length ≤ n → Co01.valueOf w < 10 ^ n := by
  suffices ∀ (w : List Nat) (v : Nat), (∀ c ∈ w, Co01.digit c = true) → w.foldl (fun (n c : Nat) => 10 * n + (c - 48)) v < (v + 1) * 10 ^ w.length by
    intro n hn
    have := this w 0 h
    have h2 : 10 ^ w.length ≤ 10 ^ n := Nat.pow_le_pow_right (by omega) hn
    unfold Co01.valueOf
    omega
  intro w
  induction w with
  | nil => intro v _; simp
  | cons c w ih =>
    intro v h
    have hc := h c (List.mem_cons_self ..)
    simp [Co01.digit] at hc
    have := ih (10 * v + (c - 48)) (fun d hd => h d (List.mem_cons_of_mem _ hd))
    rw [List.foldl_cons, List.length_cons, Nat.pow_succ]
    refine Nat.lt_of_lt_of_le this ?_
    have : (10 * v + (c - 48) + 1) ≤ (v + 1) * 10 := by omega
    calc (10 * v + (c - 48) + 1) * 10 ^ w.length ≤ ((v + 1) * 10) * 10 ^ w.length := Nat.mul_le_mul_right _ this
      _ = _ := by rw [Nat.mul_assoc, Nat.mul_comm 10 (10 ^ w.length)]
def faultAt (C : Addr) (E : XK) (H : Hp) (p : Int) : Prop := ∀ d : Addr, H d = none → E (.ref C) (some d) (upd H d (.xd [(("place" : Str), .int p)]))
def spNumTok (C : Addr) (K : PySem.W.Frag) : Sp := fun vs H Q E => ∃ (a : Addr) (bs : List Nat) (p q : Nat), vs = [.ref a, .int p, .int q] ∧ SqL K H a (nats bs) ∧ p < q ∧ q ≤ bs.length ∧ (∀ c ∈ (bs.drop p).take (q - p), Co01.digit c = true) ∧
  (BadNum ((bs.drop p).take (q - p)) → faultAt C E H p) ∧
  (¬ BadNum ((bs.drop p).take (q - p)) → ∀ (H' : Hp) (t : Addr), Same H H' → H t = none → H' t = some (.tup [.str "number", .int (Co01.valueOf ((bs.drop p).take (q - p))), .int p]) → Q (.ref t) H')
theorem scNumTok : FnScope ["text", "place", "behind", "length", "value", "byte"] ["text", "place", "behind"] (defScope sNumTok) := ⟨rfl, rfl, rfl, by decide +kernel, rfl, by decide +kernel, by decide +kernel⟩
theorem ok_numTok {C fI : Addr} (F : FnP K "number_token" sNumTok f fd) (T : PySem.FaultX.FaultTxt K mg C fI) (g1 : IntG mg "LONGEST_NUMBER" 7) (g2 : IntG mg "FIRST_DIGIT" 48) :
    FnOk P w K mg base (L2N.CX P w) 3 f fd ["text", "place", "behind"] (spNumTok C K) := by
  refine F.okXN scNumTok (fun vs H Q E h => ?_) (fun cdv A outer s H vs Q E hr h => ⟨_, (pss_cons (ps_set (i := 3) scNumTok.nd rfl (.inl rfl) (pe_op op_sub (pv 2) (pv 1)))
      (pss_cons (ps_if (PW.pt (pw_or (pt_cmpR op_gt (pv 3) (pe_gint g1) (nomark _)) (pw_or1 (PW.pt (pw_and (pt_cmpR op_gt (pv 3) pe_int (nomark _)) (pw_and1 (pt_cmpR op_eq (pe_ix ix_list (pv 0) (pv 1) (fun _ _ => rfl)) (pe_gint g2) (nomark _))))))))
        (pss_one (ps_raiseLow rfl T hr (L2N.takes_of rfl rfl rfl rfl) (by exact (pa_cons (pv 1) pa_nil)))) pss_nil)
      (pss_cons (ps_set (i := 4) scNumTok.nd rfl (.inl rfl) pe_int)
      (pss_cons (ps_for (passes_of rfl) rfl (pi_list (pe_slice sl_list (pv 0) (po_some (pv 1)) (po_some (pv 2)))) (pg_name (i := 5) scNumTok.nd rfl (.inl rfl))
        (pss_one (ps_set (i := 4) scNumTok.nd rfl (.inl rfl) (pe_op op_sub (pe_op op_add (pe_op op_mul (pv 4) pe_int) (pv 5)) (pe_gint g2)))))
      (pss_one (ps_ret (pe_tup (pa_cons pe_str (pa_cons (pv 4) (pa_cons (pv 1) pa_nil)))))))))), ?_⟩)
  · obtain ⟨a, bs, p, q, rfl, _⟩ := h
    rfl
  · obtain ⟨a, bs, p, q, rfl, hS, hpq, hq, hdig, hB, hG⟩ := h
    have hl : ((bs.drop p).take (q - p)).length = q - p := by simp; omega
    have hb : ∃ b, bs[p]? = some b ∧ ((bs.drop p).take (q - p)).head? = some b := by
      refine ⟨bs[p]'(by omega), List.getElem?_eq_getElem (by omega), ?_⟩
      rw [List.drop_eq_getElem_cons (by omega), show q - p = (q - p - 1) + 1 by omega]
      rfl
    obtain ⟨b, hb1, hb2⟩ := hb
    refine ⟨_, rfl, _, rfl, _, _, rfl, rfl, ?_⟩
    dsimp only [gName, tSeq, tIfS]
    refine tOr_by (decide ((7 : Int) < (q : Int) - p)) (decide ((1 : Int) < (q : Int) - p) && decide ((b : Int) = 48)) (fun R h => ⟨_, rfl, _, _, rfl, rfl, _, rfl, h⟩) (fun _ R h => ?_) ?_
    · refine tAnd_by (decide ((1 : Int) < (q : Int) - p)) (decide ((b : Int) = 48)) (fun R h => ⟨_, rfl, _, _, rfl, rfl, _, rfl, h⟩) (fun _ R h => ?_) h
      exact ⟨_, rfl, _, rfl, a, nats bs, _, V.int b, rfl, rfl, hS, atI_nat (by simp [nats, hb1]), rfl, _, rfl, by simpa using h⟩
    · have eB : (decide ((7 : Int) < (q : Int) - p) || decide ((1 : Int) < (q : Int) - p) && decide ((b : Int) = 48)) = decide (BadNum ((bs.drop p).take (q - p))) := by
        rw [← Bool.decide_and, ← Bool.decide_or]
        refine decide_eq_decide.mpr ?_
        rw [BadNum, hl, hb2]
        simp only [Option.some.injEq]
        omega
      rw [eB]
      by_cases B : BadNum ((bs.drop p).take (q - p))
      · rw [decide_eq_true B]
        refine ⟨_, rfl, _, rfl, fun d hd => hB B d hd⟩
      · rw [decide_eq_false B]
        have q1 := hG B
        refine ⟨_, rfl, _, rfl, p, rfl, _, rfl, q, rfl, a, nats bs, rfl, hS, fun l hl0 => ?_⟩
        rw [cutV_nats bs (Nat.le_of_lt hpq) hq]
        have kl : Same H (upd H l (.lst (nats ((bs.drop p).take (q - p))))) := fun b o e => by
          by_cases c : b = l
          · rw [c, hl0] at e; cases e
          · rw [upd_ne c]; exact e
        refine ⟨l, rfl, ⟨_, .inl (.inl upd_same)⟩, ?_⟩
        have wlt : ((bs.drop p).take (q - p)).length ≤ 7 := by
          rw [BadNum] at B; omega
        generalize hw : (bs.drop p).take (q - p) = W at *
        refine for_list (K := K) (a := l) (xs := nats W) (fun i σ H' => ∃ o : Option V, σ = [some (.ref a), some (.int p), some (.int q), some (.int (q - p)), some (.int (Co01.valueOf (W.take i))), o] ∧ H' = upd H l (.lst (nats W)))
          ⟨none, rfl, rfl⟩ (fun i σ H' _ h => by obtain ⟨o, rfl, rfl⟩ := h; exact .inl (.inl upd_same)) (fun i x σ H' hi h => ?_) (fun σ H' h => ?_)
        · obtain ⟨o, rfl, rfl⟩ := h
          obtain ⟨c, hc, rfl⟩ : ∃ c : Nat, W[i]? = some c ∧ x = V.int c := by
            simp only [nats, List.getElem?_map] at hi
            cases e : W[i]? with
            | none => rw [e] at hi; cases hi
            | some c => rw [e] at hi; exact ⟨c, rfl, (Option.some.inj hi).symm⟩
          have hd := hdig c (List.mem_of_getElem? hc)
          have lt : Co01.valueOf (W.take i) < 10 ^ 7 := valueOf_lt (fun d hd => hdig d (List.mem_of_mem_take hd)) 7 (by rw [List.length_take]; omega)
          refine ⟨_, rfl, _, _, rfl, rfl, .inl ⟨by omega, by omega⟩, _, rfl, _, _, rfl, rfl, _, _, rfl, rfl, some (.int c), ?_, rfl⟩
          rw [valueOf_take hc hd]
          rfl
        · obtain ⟨o, rfl, rfl⟩ := h
          rw [show (nats W).length = W.length by simp [nats], List.take_length]
          refine ⟨_, rfl, _, rfl, (by show 3 ≤ sizeLine; decide), fun t ht => q1 _ t ?_ ?_ upd_same⟩
          · intro b o e
            have k := kl b o e
            by_cases c : b = t
            · rw [c] at k; rw [ht] at k; cases k
            · rw [upd_ne c]; exact k
          · cases e : H t with
            | none => rfl
            | some o => have k := kl t o e; rw [ht] at k; cases k
end
end Bd
end
section
set_option Elab.async false
set_option linter.all false
set_option maxRecDepth 100000
set_option maxHeartbeats 2000000
set_option autoImplicit false
namespace Bd
open PySem PySem.Spec PyProof.Rows L2
/-- a text of the top -/
def StrG (mg : Str → Option Value) (x : Str) (s : Str) : Prop := ∃ t, mg x = some (.str s t)
theorem pe_gstr {X : Cx} {x : Str} {i : Str} {pos : Pos} (h : StrG X.mg x i) (hg : Gl X x := by rfl) (hd : (x == ("__debug__" : Str)) = false := by decide) : PE X (.Name x pos) (tC (.str i)) := by
  obtain ⟨t, h⟩ := h
  exact pe_glob (v := .str i) hg h ⟨t, rfl⟩ hd
/-- a tuple of texts of the top -/
def TupG (K : PySem.W.Frag) (mg : Str → Option Value) (x : Str) (xs : List V) : Prop := ∃ a, mg x = some (.ref a) ∧ ∀ H, SqT K H a xs
/-- the text of bytes -/
theorem sB_inj {a b : List Nat} : sB a = sB b ↔ a = b := by
  constructor
  · intro h
    have := congrArg (fun s : Str => s.cps.toList) h
    simpa [sB] using this
  · intro h; rw [h]
theorem joinL_one : ∀ w : List Nat, TL.joinL [] (w.map fun c => [c]) = w
  | [] => rfl
  | [_] => rfl
  | a :: b :: w => by
    have := joinL_one (b :: w)
    simp only [List.map_cons] at this ⊢
    simp only [TL.joinL, List.nil_append]
    rw [this]
    rfl
theorem join_bytes (w : List Nat) : Txt.join (Str.ofString "") (w.map fun c => sB [c]) = sB w := by
  rw [TL.join_eq]
  have h := TL.tl_join (Str.ofString "") (w.map fun c => sB [c])
  rw [List.map_map, show (TL.tl ∘ fun c => sB [c]) = (fun c => [c]) from rfl, show TL.tl (Str.ofString "") = [] from rfl, joinL_one] at h
  have : TL.tl (Str.join (Str.ofString "") (w.map fun c => sB [c])) = TL.tl (sB w) := by rw [h]; rfl
  cases e : Str.join (Str.ofString "") (w.map fun c => sB [c])
  rw [e] at this
  simp only [TL.tl, sB] at this ⊢
  congr 1
  exact Array.toList_inj.mp this
theorem lett_at {c : Nat} (h : Co01.small c = true) : atI LETT.cps.toList ((c : Int) - 97) = some c := by
  simp [Co01.small] at h
  have : ∀ d : Fin 26, atI LETT.cps.toList (d.1 : Int) = some (97 + d.1) := by decide +kernel
  have k := this ⟨c - 97, by omega⟩
  rw [show (c : Int) - 97 = ((c - 97 : Nat) : Int) by omega]
  rw [k]
  congr 1
  show 97 + (c - 97) = c
  omega
section
variable {P : Program} {w : World} {K : PySem.W.Frag} {mg : Str → Option Value} {base : Heap} {f : Addr} {fd : FuncData}
/-! ## word_token -/
abbrev sWordTok : Stmt := top 51
def BadWord (w : List Nat) : Prop := 8 < w.length ∧ w ≠ Co01.ascii "otherwise"
instance (w : List Nat) : Decidable (BadWord w) := by unfold BadWord; infer_instance
def kindOf (w : List Nat) : Str := if Co01.isName w = true then Str.ofString "name" else sB w
theorem not_names_eq : NOT_NAMES = Co01.WORDS.map sB := by decide +kernel
theorem in_words (w : List Nat) : inV (.str (sB w)) (NOT_NAMES.map V.str) = !Co01.isName w := by
  rw [not_names_eq, Co01.isName, Bool.not_not]
  generalize Co01.WORDS = L
  induction L with
  | nil => rfl
  | cons a L ih =>
    rw [List.map_cons, List.map_cons, List.contains_cons, ← ih]
    show (eqV (.str (sB a)) (.str (sB w)) || inV (.str (sB w)) ((L.map sB).map V.str)) = _
    congr 1
    show (sB a == sB w) = (w == a)
    rw [Bool.eq_iff_iff, beq_iff_eq, beq_iff_eq, sB_inj]
    exact ⟨Eq.symm, Eq.symm⟩
theorem ones_sum (w : List Nat) : ((w.map fun c => sB [c]).map (·.length)).sum = w.length := by
  induction w with
  | nil => rfl
  | cons a w ih => rw [List.map_cons, List.map_cons, List.sum_cons, ih, List.length_cons]; show 1 + w.length = _; omega
theorem bad_word (w : List Nat) : (decide ((8 : Int) < ((sB w).length : Nat)) && !decide (V.str (sB w) = V.str (Str.ofString "otherwise"))) = decide (BadWord w) := by
  have e : Str.ofString "otherwise" = sB (Co01.ascii "otherwise") := by decide +kernel
  have hl : (sB w).length = w.length := by simp [sB, Str.length]
  rw [e, ← decide_not, ← Bool.decide_and]
  refine decide_eq_decide.mpr ?_
  rw [BadWord, hl]
  constructor
  · rintro ⟨h1, h2⟩
    exact ⟨by omega, fun h => h2 (by rw [h])⟩
  · rintro ⟨h1, h2⟩
    exact ⟨by omega, fun h => h2 (sB_inj.mp (V.str.inj h))⟩
def spWordTok (C : Addr) (K : PySem.W.Frag) : Sp := fun vs H Q E => ∃ (a : Addr) (bs : List Nat) (p q : Nat), vs = [.ref a, .int p, .int q] ∧ SqL K H a (nats bs) ∧ p < q ∧ q ≤ bs.length ∧ bs.length ≤ 1000 ∧ (∀ c ∈ (bs.drop p).take (q - p), Co01.small c = true) ∧
  (BadWord ((bs.drop p).take (q - p)) → ∀ H', Same H H' → faultAt C E H' p) ∧
  (¬ BadWord ((bs.drop p).take (q - p)) → ∀ (H' : Hp) (t : Addr), Same H H' → H t = none → H' t = some (.tup [.str (kindOf ((bs.drop p).take (q - p))), .str (sB ((bs.drop p).take (q - p))), .int p]) → Q (.ref t) H')
def wordScope : Scope := match (defBody sWordTok).head? with
  | some (.Assign _ (.Call _ [.ListComp _ _ sc _] _ _) _) => sc
  | _ => defScope sWordTok
theorem scWordTok : FnScope ["text", "place", "behind", "word", "byte"] ["text", "place", "behind"] (defScope sWordTok) := ⟨rfl, rfl, rfl, by decide +kernel, rfl, by decide +kernel, by decide +kernel⟩
theorem blWord : BlkOk ["text", "place", "behind", "word", "byte"] (defScope sWordTok) wordScope [("byte", 4)] := ⟨rfl, by decide +kernel, by decide +kernel, by decide +kernel, by decide +kernel⟩
theorem ok_wordTok {C fI : Addr} (F : FnP K "word_token" sWordTok f fd) (T : PySem.FaultX.FaultTxt K mg C fI) (gl : StrG mg "LETTERS" LETT) (g1 : IntG mg "FIRST_LETTER" 97) (g2 : IntG mg "LONGEST_WORD" 8) (g3 : StrG mg "LONG_WORD" "otherwise") (gL : mg "len" = none) (a0 : Addr) (gN : mg "NO_NAMES" = some (.ref a0)) (gT : ∀ H, SqT K H a0 (NOT_NAMES.map V.str)) :
    FnOk P w K mg base (L2N.CX P w) 3 f fd ["text", "place", "behind"] (spWordTok C K) := by
  refine F.okXN scWordTok (fun vs H Q E h => ?_) (fun cdv A outer s H vs Q E hr h => ⟨_, (pss_cons (ps_set (i := 3) scWordTok.nd rfl (.inl rfl) (pe_join pe_str (pe_lc rfl scWordTok.nd (pi_list (pe_slice sl_list (pv 0) (po_some (pv 1)) (po_some (pv 2)))) blWord
        (fun _ _ _ _ _ => pg_name (i := 4) scWordTok.nd rfl (.inl rfl)) (fun _ _ _ _ _ => pts_nil) (fun _ _ _ _ _ => pe_ix ix_str (pe_gstr gl) (pe_op op_sub (pv 4) (pe_gint g1)) (fun _ _ => rfl)))))
      (pss_cons (ps_if (PW.pt (pw_and (pt_cmpR op_gt (pe_callB call_len_str rfl gL PySem.boot_len (pa_cons (pv 3) pa_nil)) (pe_gint g2) (nomark _)) (pw_and1 (pt_cmpR op_ne (pv 3) (pe_gstr g3) (nomark _)))))
        (pss_one (ps_raiseLow rfl T hr (L2N.takes_of rfl rfl rfl rfl) (by exact (pa_cons (pv 1) pa_nil)))) pss_nil)
      (pss_cons (ps_if (pt_cmpR op_in_seq (pv 3) (pe_glob (v := .ref a0) (by rfl) gN rfl) rfl) (pss_one (ps_ret (pe_tup (pa_cons (pv 3) (pa_cons (pv 3) (pa_cons (pv 1) pa_nil)))))) pss_nil)
      (pss_one (ps_ret (pe_tup (pa_cons pe_str (pa_cons (pv 3) (pa_cons (pv 1) pa_nil))))))))), ?_⟩)
  · obtain ⟨a, bs, p, q, rfl, _⟩ := h
    rfl
  · obtain ⟨a, bs, p, q, rfl, hS, hpq, hq, hz, hsm, hB, hG⟩ := h
    have hl : ((bs.drop p).take (q - p)).length = q - p := by simp; omega
    refine ⟨⟨_, rfl⟩, _, rfl, _, rfl, p, rfl, _, rfl, q, rfl, a, nats bs, rfl, hS, fun l hl0 => ?_⟩
    rw [cutV_nats bs (Nat.le_of_lt hpq) hq]
    generalize hw : (bs.drop p).take (q - p) = W at *
    have hW : W.length ≤ 1000 := by omega
    have kl : Same H (upd H l (.lst (nats W))) := fun b o e => by
      by_cases c : b = l
      · rw [c, hl0] at e; cases e
      · rw [upd_ne c]; exact e
    refine ⟨l, rfl, ⟨_, .inl (.inl upd_same)⟩, fun D hD => ?_⟩
    have nDl : D ≠ l := fun e => by rw [e, upd_same] at hD; cases hD
    refine lc_list (K := K) (a := l) (xs := nats W) (fun i H' => H' = upd (upd H l (.lst (nats W))) D (.lst ((W.take i).map fun c => V.str (sB [c])))) rfl (fun i H' _ h => ?_) (fun i x H' hi h => ?_) (fun H' h => ?_)
    · subst h
      exact .inl (.inl (by rw [upd_ne nDl.symm]; exact upd_same))
    · subst h
      obtain ⟨c, hc, rfl⟩ : ∃ c : Nat, W[i]? = some c ∧ x = V.int c := by
        simp only [nats, List.getElem?_map] at hi
        cases e : W[i]? with
        | none => rw [e] at hi; cases hi
        | some c => rw [e] at hi; exact ⟨c, rfl, (Option.some.inj hi).symm⟩
      have hs := hsm c (List.mem_of_getElem? hc)
      refine ⟨rfl, ?_⟩
      refine ⟨_, rfl, _, _, rfl, rfl, LETT, _, c, rfl, rfl, by decide, lett_at hs, _, upd_same, ?_, ?_⟩
      · rw [List.length_map, List.length_take]
        exact Nat.lt_of_le_of_lt (Nat.min_le_right _ _) (small1000 hW)
      · rw [upd_upd, List.take_add_one, hc, List.map_append]
        rfl
    · subst h
      rw [show (nats W).length = W.length by simp [nats], List.take_length]
      refine ⟨_, D, W.map (fun c => sB [c]), rfl, rfl, .inl (.inl (.inl ?_)), ?_, ?_⟩
      · rw [upd_same, List.map_map]; rfl
      · rw [ones_sum, List.length_map]
        show W.length + W.length * 0 ≤ 16777216
        omega
      · rw [join_bytes]
        have hlen : (sB W).length = W.length := by simp [sB, Str.length]
        have s2 : Same H (upd (upd H l (.lst (nats W))) D (.lst (W.map fun c => V.str (sB [c])))) := fun b o e => by
          by_cases c : b = D
          · have k := kl b o e
            rw [c, hD] at k; cases k
          · rw [upd_ne c]; exact kl b o e
        generalize upd (upd H l (.lst (nats W))) D (.lst (W.map fun c => V.str (sB [c]))) = H2 at *
        have fin : ¬ BadWord W → ∀ t, H2 t = none → Q (.ref t) (upd H2 t (.tup [.str (kindOf W), .str (sB W), .int p])) := fun B t ht => by
          refine hG B _ t ?_ (s2.free ht) upd_same
          intro b o e
          by_cases c : b = t
          · have k := s2 b o e
            rw [c, ht] at k; cases k
          · rw [upd_ne c]; exact s2 b o e
        dsimp only [gName, tSeq, tIfS]
        refine tAnd_by (decide ((8 : Int) < ((sB W).length : Nat))) (!decide (V.str (sB W) = V.str (Str.ofString "otherwise"))) (fun R h => ⟨_, rfl, sB W, rfl, ?_, _, _, rfl, rfl, _, rfl, h⟩) (fun _ R h => ⟨_, rfl, rfl, _, rfl, h⟩) ?_
        · rw [hlen]; exact Nat.le_trans hW (by decide)
        · rw [bad_word]
          by_cases B : BadWord W
          · rw [decide_eq_true B]
            exact ⟨_, rfl, _, rfl, fun d hd => hB B _ s2 d hd⟩
          · rw [decide_eq_false B]
            refine ⟨_, rfl, a0, NOT_NAMES.map V.str, rfl, .inr (gT _), rfl, by decide, _, rfl, ?_⟩
            have k := fin B
            rw [kindOf] at k
            show if (if false = true then _ else inV (.str (sB W)) (NOT_NAMES.map V.str)) = true then _ else _
            rw [if_neg Bool.false_ne_true, in_words]
            cases c : Co01.isName W with
            | true =>
              rw [c] at k
              exact ⟨_, rfl, _, rfl, (by show 3 ≤ sizeLine; decide), fun t ht => k t ht⟩
            | false =>
              rw [c] at k
              exact ⟨_, rfl, _, rfl, _, rfl, (by show 3 ≤ sizeLine; decide), fun t ht => k t ht⟩
end
end Bd
end
section
set_option Elab.async false
set_option linter.all false
set_option maxRecDepth 100000
set_option maxHeartbeats 2000000
set_option autoImplicit false
namespace Bd
open PySem PySem.Spec PyProof.Rows L2
section
variable {P : Program} {w : World} {K : PySem.W.Frag} {mg : Str → Option Value} {base : Heap} {f : Addr} {fd : FuncData}
/-! ## tokens_of -/
abbrev sTokens : Stmt := top 46
/-- the tuple of a token -/
def tokTup : Nat × Co01.Tok → List V
  | (p, .word u) => [.str (kindOf u), .str (sB u), .int p]
  | (p, .num n) => [.str "number", .int n, .int p]
  | (p, .sign c) => [.str (sB [c]), .str (sB [c]), .int p]
def endTup (e : Nat) : List V := [.str "end", .str "", .int e]
/-- the tuples at these places -/
inductive Tups (H : Hp) : List Addr → List (List V) → Prop
  | nil : Tups H [] []
  | cons {a : Addr} {x : List V} {as : List Addr} {xs : List (List V)} : H a = some (.tup x) → Tups H as xs → Tups H (a :: as) (x :: xs)
theorem Tups.keeps {H H' : Hp} (h : ∀ a x, H a = some (.tup x) → H' a = some (.tup x)) {as : List Addr} {xs : List (List V)} (t : Tups H as xs) : Tups H' as xs := by
  induction t with
  | nil => exact .nil
  | cons e _ ih => exact .cons (h _ _ e) ih
theorem Tups.snoc {H : Hp} {as : List Addr} {xs : List (List V)} (t : Tups H as xs) {a : Addr} {x : List V} (e : H a = some (.tup x)) : Tups H (as ++ [a]) (xs ++ [x]) := by
  induction t with
  | nil => exact .cons e .nil
  | cons e' _ ih => exact .cons e' ih
theorem Tups.length {H : Hp} {as : List Addr} {xs : List (List V)} (t : Tups H as xs) : as.length = xs.length := by
  induction t with
  | nil => rfl
  | cons _ _ ih => rw [List.length_cons, List.length_cons, ih]
/-- the list of tokens at t -/
def TokL (H : Hp) (t : Addr) (toks : Co01.Rest) (e : Nat) : Prop := ∃ as, H t = some (.lst (as.map V.ref)) ∧ Tups H as (toks.map tokTup ++ [endTup e])
def spTokens (C : Addr) (K : PySem.W.Frag) : Sp := fun vs H Q E => ∃ (a : Addr) (bs : List Nat), vs = [.ref a] ∧ SqL K H a (nats bs) ∧ bs.length ≤ 1000 ∧
  (∀ p, Co01.lex (bs.length + 1) 0 bs = .error p → ∀ H', Same H H' → faultAt C E H' p) ∧
  (∀ toks, Co01.lex (bs.length + 1) 0 bs = .ok toks → ∀ (H' : Hp) (t : Addr), Same H H' → H t = none → TokL H' t toks bs.length → Q (.ref t) H')
theorem scTokens : FnScope ["text", "tokens", "place", "byte", "behind"] ["text"] (defScope sTokens) := ⟨rfl, rfl, rfl, by decide +kernel, rfl, by decide +kernel, by decide +kernel⟩
theorem map_snoc (x : Except Nat Co01.Rest) (done : Co01.Rest) (y : Nat × Co01.Tok) : (x.map fun r => y :: r).map (done ++ ·) = x.map ((done ++ [y]) ++ ·) := by
  cases x with
  | error _ => rfl
  | ok r => simp [Except.map]
theorem take_while_len {f : Nat → Bool} (l : List Nat) : l.take (l.takeWhile f).length = l.takeWhile f := (List.prefix_iff_eq_take.mp (List.takeWhile_prefix f)).symm
theorem while_all {f : Nat → Bool} (l : List Nat) : ∀ c ∈ l.takeWhile f, f c = true := by
  intro c hc
  have := List.all_takeWhile (p := f) (l := l)
  exact List.all_eq_true.mp this c hc
/-- the signs' table -/
def SignsG (P : Program) (w : World) (K : PySem.W.Frag) (mg : Str → Option Value) : Prop := ∃ d, mg "SIGNS" = some (.ref d) ∧ ∃ f, KMix P w K d f ∧ ∀ c : Nat, if Co01.SIGNS.contains c = true then ∃ t, f (.inl c) = some (.str (sB [c]) t) else f (.inl c) = none
theorem ok_tokens {C fI f1 f2 f3 f4 f5 f6 : Addr} {fd1 fd2 fd3 fd4 fd5 fd6 : FuncData} (F : FnP K "tokens_of" sTokens f fd) (T : PySem.FaultX.FaultTxt K mg C fI)
    (F1 : FnP K "is_letter" sLetter f1 fd1) (m1 : mg "is_letter" = some (.ref f1)) (G1 : FnOk P w K mg base CX0 1 f1 fd1 ["byte"] spLetter)
    (F2 : FnP K "is_digit" sDigit f2 fd2) (m2 : mg "is_digit" = some (.ref f2)) (G2 : FnOk P w K mg base CX0 1 f2 fd2 ["byte"] spDigit)
    (F3 : FnP K "word_end" sWordEnd f3 fd3) (m3 : mg "word_end" = some (.ref f3)) (G3 : FnOk P w K mg base CX0 2 f3 fd3 ["text", "place"] (spWordEnd K))
    (F4 : FnP K "number_end" sNumEnd f4 fd4) (m4 : mg "number_end" = some (.ref f4)) (G4 : FnOk P w K mg base CX0 2 f4 fd4 ["text", "place"] (spNumEnd K))
    (F5 : FnP K "word_token" sWordTok f5 fd5) (m5 : mg "word_token" = some (.ref f5)) (G5 : FnOk P w K mg base (L2N.CX P w) 3 f5 fd5 ["text", "place", "behind"] (spWordTok C K))
    (F6 : FnP K "number_token" sNumTok f6 fd6) (m6 : mg "number_token" = some (.ref f6)) (G6 : FnOk P w K mg base (L2N.CX P w) 3 f6 fd6 ["text", "place", "behind"] (spNumTok C K))
    (gB : IntG mg "BLANK" 32) (gL : mg "len" = none) (gS : SignsG P w K mg) :
    FnOk P w K mg base (L2N.CX P w) 4 f fd ["text"] (spTokens C K) := by
  have b1 : Binds K fd1 ["byte"] [] := F1.binds fun _ _ _ _ _ _ us hl => match us, hl with | [_], _ => rfl
  have b2 : Binds K fd2 ["byte"] [] := F2.binds fun _ _ _ _ _ _ us hl => match us, hl with | [_], _ => rfl
  have b3 : Binds K fd3 ["text", "place"] [] := F3.binds fun _ _ _ _ _ _ us hl => match us, hl with | [_, _], _ => rfl
  have b4 : Binds K fd4 ["text", "place"] [] := F4.binds fun _ _ _ _ _ _ us hl => match us, hl with | [_, _], _ => rfl
  have b5 : Binds K fd5 ["text", "place", "behind"] [] := F5.binds fun _ _ _ _ _ _ us hl => match us, hl with | [_, _, _], _ => rfl
  have b6 : Binds K fd6 ["text", "place", "behind"] [] := F6.binds fun _ _ _ _ _ _ us hl => match us, hl with | [_, _, _], _ => rfl
  obtain ⟨dS, mS, fS, kS, hSg⟩ := gS
  refine F.okXN scTokens (fun vs H Q E h => ?_) (fun cdv A outer s H vs Q E hr h => ⟨_, (pss_cons (ps_set (i := 1) scTokens.nd rfl (.inl rfl) (pe_lst pa_nil))
    (pss_cons (ps_set (i := 2) scTokens.nd rfl (.inl rfl) pe_int)
    (pss_cons (ps_while (passes_of rfl) (pt_cmpR op_lt (pv 2) (pe_callB call_len_seq rfl gL PySem.boot_len (pa_cons (pv 0) pa_nil)) (nomark _))
      (pss_cons (ps_set (i := 3) scTokens.nd rfl (.inl rfl) (pe_ix ix_list (pv 0) (pv 2) (fun _ _ => rfl)))
      (pss_cons (ps_set (i := 4) scTokens.nd rfl (.inl rfl) (pe_op op_add (pv 2) pe_int))
      (pss_cons (ps_if (pt_val (pe_call (G1.mono (by decide)) hr rfl m1 F1.kp b1 .nil pass0 (pa_cons (pv 3) pa_nil)))
        (pss_cons (ps_set (i := 4) scTokens.nd rfl (.inl rfl) (pe_call (G3.mono (by decide)) hr rfl m3 F3.kp b3 .nil pass0 (pa_cons (pv 0) (pa_cons (pv 2) pa_nil))))
          (pss_one (ps_expr (pe_bm PySem.F.plainAttrs_list PySem.F.slot_list_append PySem.F.type_list_append mt_append (pv 1) (pa_cons (pe_call G5 hr rfl m5 F5.kp b5 .nil (L2N.passes_call (L2N.takes_of rfl rfl rfl rfl) (fun _ _ _ _ h => h)) (pa_cons (pv 0) (pa_cons (pv 2) (pa_cons (pv 4) pa_nil)))) pa_nil)))))
        (pss_one (ps_if (pt_val (pe_call (G2.mono (by decide)) hr rfl m2 F2.kp b2 .nil pass0 (pa_cons (pv 3) pa_nil)))
          (pss_cons (ps_set (i := 4) scTokens.nd rfl (.inl rfl) (pe_call (G4.mono (by decide)) hr rfl m4 F4.kp b4 .nil pass0 (pa_cons (pv 0) (pa_cons (pv 2) pa_nil))))
            (pss_one (ps_expr (pe_bm PySem.F.plainAttrs_list PySem.F.slot_list_append PySem.F.type_list_append mt_append (pv 1) (pa_cons (pe_call G6 hr rfl m6 F6.kp b6 .nil (L2N.passes_call (L2N.takes_of rfl rfl rfl rfl) (fun _ _ _ _ h => h)) (pa_cons (pv 0) (pa_cons (pv 2) (pa_cons (pv 4) pa_nil)))) pa_nil)))))
          (pss_one (ps_if (pt_cmpR op_in_kmix (pv 3) (pe_glob (v := .ref dS) (by rfl) mS rfl) rfl)
            (pss_one (ps_expr (pe_bm PySem.F.plainAttrs_list PySem.F.slot_list_append PySem.F.type_list_append mt_append (pv 1) (pa_cons (pe_tup (pa_cons (pe_ix ix_kmix (pe_glob (v := .ref dS) (by rfl) mS rfl) (pv 3) (fun _ _ => rfl)) (pa_cons (pe_ix ix_kmix (pe_glob (v := .ref dS) (by rfl) mS rfl) (pv 3) (fun _ _ => rfl)) (pa_cons (pv 2) pa_nil)))) pa_nil))))
            (pss_one (ps_if (pt_cmpR op_ne (pv 3) (pe_gint gB) (nomark _)) (pss_one (ps_raiseLow rfl T hr (L2N.takes_of rfl rfl rfl rfl) (by exact (pa_cons (pv 2) pa_nil)))) pss_nil)))))))
      (pss_one (ps_set (i := 2) scTokens.nd rfl (.inl rfl) (pv 4)))))))
    (pss_cons (ps_expr (pe_bm PySem.F.plainAttrs_list PySem.F.slot_list_append PySem.F.type_list_append mt_append (pv 1) (pa_cons (pe_tup (pa_cons pe_str (pa_cons pe_str (pa_cons (pe_callB call_len_seq rfl gL PySem.boot_len (pa_cons (pv 0) pa_nil)) pa_nil)))) pa_nil)))
    (pss_one (ps_ret (pv 1))))))), ?_⟩)
  · obtain ⟨a, bs, rfl, _⟩ := h
    rfl
  · obtain ⟨a, bs, rfl, hS, hz, hE, hO⟩ := h
    refine ⟨by decide, fun t ht => ?_⟩
    have up : ∀ {H' : Hp} {u : Addr} {o : HO}, Same H H' → H u = none → Same H (upd H' u o) := fun {H' u o} k hu b x e => by
      by_cases c : b = u
      · rw [c, hu] at e; cases e
      · rw [upd_ne c]; exact k b x e
    refine ⟨fun n σ H' => ∃ (p k : Nat) (as : List Addr) (done : Co01.Rest) (o3 o4 : Option V), σ = [some (.ref a), some (.ref t), some (.int p), o3, o4] ∧ p ≤ bs.length ∧ n = bs.length - p ∧ bs.length - p < k ∧ Same H H' ∧ H' t = some (.lst (as.map V.ref)) ∧
      Tups H' as (done.map tokTup) ∧ done.length ≤ p ∧ Co01.lex (bs.length + 1) 0 bs = (Co01.lex k p (bs.drop p)).map (done ++ ·), ?_, ?_⟩
    · refine ⟨_, 0, bs.length + 1, [], [], none, none, rfl, Nat.zero_le _, rfl, by omega, up (Same.refl H) ht, upd_same, .nil, Nat.zero_le _, ?_⟩
      rw [List.drop_zero]
      cases Co01.lex (bs.length + 1) 0 bs <;> rfl
    · rintro n σ H' ⟨p, k, as, done, o3, o4, rfl, hp, rfl, hk, kH, hT, tu, hd, e⟩
      have hS' : SqL K H' a (nats bs) := kH.seq hS
      have hlen : (nats bs).length = bs.length := by simp [nats]
      refine ⟨_, rfl, _, rfl, a, nats bs, rfl, .inl hS', _, _, rfl, rfl, _, rfl, ?_⟩
      rw [hlen]
      by_cases c : p < bs.length
      · rw [decide_eq_true (show (p : Int) < (bs.length : Int) by omega)]
        have hb : bs[p]? = some bs[p] := List.getElem?_eq_getElem c
        have hdr : bs.drop p = bs[p] :: bs.drop (p + 1) := List.drop_eq_getElem_cons c
        generalize hbp : bs[p] = b at *
        refine ⟨_, fun _ _ h => h, ?_⟩
        obtain ⟨k, rfl⟩ : ∃ k', k = k' + 1 := ⟨k - 1, by omega⟩
        have next : ∀ (q : Nat) (o3 : Option V) (H2 : Hp) (as2 : List Addr) (done2 : Co01.Rest), p < q → q ≤ bs.length → Same H H2 → H2 t = some (.lst (as2.map V.ref)) → Tups H2 as2 (done2.map tokTup) → done2.length ≤ q →
            Co01.lex (bs.length + 1) 0 bs = (Co01.lex k q (bs.drop q)).map (done2 ++ ·) → ∃ m', m' < bs.length - p ∧ ∃ (p' k' : Nat) (as' : List Addr) (done' : Co01.Rest) (o3' o4' : Option V), [some (.ref a), some (.ref t), some (.int q), o3, some (.int q)] = [some (.ref a), some (.ref t), some (.int p'), o3', o4'] ∧ p' ≤ bs.length ∧ m' = bs.length - p' ∧ bs.length - p' < k' ∧ Same H H2 ∧ H2 t = some (.lst (as'.map V.ref)) ∧
              Tups H2 as' (done'.map tokTup) ∧ done'.length ≤ p' ∧ Co01.lex (bs.length + 1) 0 bs = (Co01.lex k' p' (bs.drop p')).map (done' ++ ·) :=
          fun q o3 H2 as2 done2 h1 h2 h3 h4 h5 h6 h7 => ⟨bs.length - q, by omega, q, k, as2, done2, o3, some (.int q), rfl, h2, rfl, by omega, h3, h4, h5, h6, h7⟩
        have hasl : as.length = done.length := by rw [tu.length, List.length_map]
        -- a token more
        have app : ∀ (x : List V) (H2 : Hp) (t2 : Addr), Same H' H2 → H' t2 = none → H2 t2 = some (.tup x) → Same H (upd H2 t (.lst (as.map V.ref ++ [V.ref t2]))) ∧ upd H2 t (.lst (as.map V.ref ++ [V.ref t2])) t = some (.lst ((as ++ [t2]).map V.ref)) ∧
            Tups (upd H2 t (.lst (as.map V.ref ++ [V.ref t2]))) (as ++ [t2]) (done.map tokTup ++ [x]) := fun x H2 t2 s2 hn h2 => by
          have ne : t2 ≠ t := fun q => by rw [q, hT] at hn; cases hn
          refine ⟨up (kH.trans s2) ht, by rw [upd_same, List.map_append]; rfl, ((tu.keeps fun b x e => ?_).snoc (a := t2) ?_)⟩
          · rw [upd_ne (fun q => by rw [q, hT] at e; cases e)]
            exact s2 b _ e
          · rw [upd_ne ne]; exact h2
        rw [hdr] at e
        refine ⟨_, rfl, _, rfl, a, nats bs, _, V.int b, rfl, rfl, hS', atI_nat (by simp [nats, hb]), ?_⟩
        refine ⟨_, rfl, _, _, rfl, rfl, _, rfl, b, rfl, _, rfl, ?_⟩
        by_cases hs : Co01.small b = true
        · have k2 : (decide ((97 : Int) ≤ (b : Int)) && decide ((b : Int) < 123)) = true := by
            simp [Co01.small] at hs ⊢; omega
          rw [k2]
          have n32 : b ≠ 32 := by rintro rfl; exact absurd hs (by decide)
          rw [Co01.lex, if_neg n32, if_pos hs, ← hdr] at e
          dsimp only at e
          have hW1 : 0 < ((bs.drop p).takeWhile Co01.small).length := by rw [hdr, List.takeWhile_cons, if_pos hs, List.length_cons]; omega
          have hW2 : p + ((bs.drop p).takeWhile Co01.small).length ≤ bs.length := by
            have := (List.takeWhile_prefix Co01.small (l := bs.drop p)).length_le
            rw [List.length_drop] at this
            omega
          have hW3 : (bs.drop p).take (p + ((bs.drop p).takeWhile Co01.small).length - p) = (bs.drop p).takeWhile Co01.small := by
            rw [Nat.add_sub_cancel_left]; exact take_while_len _
          refine ⟨_, rfl, _, rfl, a, bs, p, rfl, hS', hp, ?_⟩
          refine ⟨_, rfl, .inl ⟨rfl, _, .inl (.inl hT)⟩, _, rfl, _, rfl, _, rfl, a, bs, p, p + ((bs.drop p).takeWhile Co01.small).length, rfl, hS', by omega, hW2, hz, ?_⟩
          rw [hW3]
          refine ⟨while_all _, fun B H2 s2 => ?_, fun B H2 t2 s2 hn h2 => ?_⟩
          · rw [BadWord] at B
            rw [if_pos B] at e
            exact hE p e _ (kH.trans s2)
          · have ap := app _ _ t2 s2 hn h2
            rw [BadWord] at B
            rw [if_neg B, List.drop_drop, map_snoc] at e
            refine ⟨t, _, _, rfl, rfl, s2 _ _ hT, ?_, _, rfl, next _ _ _ (as ++ [t2]) (done ++ [(p, .word ((bs.drop p).takeWhile Co01.small))]) (by omega) hW2 ap.1 ap.2.1 (by rw [List.map_append]; exact ap.2.2) (by rw [List.length_append, List.length_singleton]; omega) e⟩
            rw [List.length_map, hasl]
            exact small1000 (by omega)
        · have k2 : (decide ((97 : Int) ≤ (b : Int)) && decide ((b : Int) < 123)) = false := by
            simp [Co01.small] at hs ⊢; omega
          rw [k2]
          refine ⟨_, rfl, b, rfl, _, rfl, ?_⟩
          by_cases hg : Co01.digit b = true
          · have k3 : (decide ((48 : Int) ≤ (b : Int)) && decide ((b : Int) < 58)) = true := by
              simp [Co01.digit] at hg ⊢; omega
            rw [k3]
            have n32 : b ≠ 32 := by rintro rfl; exact absurd hg (by decide)
            rw [Co01.lex, if_neg n32, if_neg hs, if_pos hg, ← hdr] at e
            dsimp only at e
            have hW0 : ((bs.drop p).takeWhile Co01.digit).head? = some b := by rw [hdr, List.takeWhile_cons, if_pos hg]; rfl
            have hW1 : 0 < ((bs.drop p).takeWhile Co01.digit).length := by rw [hdr, List.takeWhile_cons, if_pos hg, List.length_cons]; omega
            have hW2 : p + ((bs.drop p).takeWhile Co01.digit).length ≤ bs.length := by
              have := (List.takeWhile_prefix Co01.digit (l := bs.drop p)).length_le
              rw [List.length_drop] at this
              omega
            have hW3 : (bs.drop p).take (p + ((bs.drop p).takeWhile Co01.digit).length - p) = (bs.drop p).takeWhile Co01.digit := by
              rw [Nat.add_sub_cancel_left]; exact take_while_len _
            refine ⟨_, rfl, _, rfl, a, bs, p, rfl, hS', hp, ?_⟩
            refine ⟨_, rfl, .inl ⟨rfl, _, .inl (.inl hT)⟩, _, rfl, _, rfl, _, rfl, a, bs, p, p + ((bs.drop p).takeWhile Co01.digit).length, rfl, hS', by omega, hW2, ?_⟩
            rw [hW3]
            have eB : BadNum ((bs.drop p).takeWhile Co01.digit) ↔ (7 < ((bs.drop p).takeWhile Co01.digit).length ∨ (1 < ((bs.drop p).takeWhile Co01.digit).length ∧ b = 48)) := by
              rw [BadNum, hW0, Option.some.injEq]
            refine ⟨while_all _, fun B => ?_, fun B H2 t2 s2 hn h2 => ?_⟩
            · rw [if_pos (eB.mp B)] at e
              exact hE p e _ kH
            · have ap := app _ _ t2 s2 hn h2
              rw [if_neg (fun q => B (eB.mpr q)), List.drop_drop, map_snoc] at e
              refine ⟨t, _, _, rfl, rfl, s2 _ _ hT, ?_, _, rfl, next _ _ _ (as ++ [t2]) (done ++ [(p, .num (Co01.valueOf ((bs.drop p).takeWhile Co01.digit)))]) (by omega) hW2 ap.1 ap.2.1 (by rw [List.map_append]; exact ap.2.2) (by rw [List.length_append, List.length_singleton]; omega) e⟩
              rw [List.length_map, hasl]
              exact small1000 (by omega)
          · have k3 : (decide ((48 : Int) ≤ (b : Int)) && decide ((b : Int) < 58)) = false := by
              simp [Co01.digit] at hg ⊢; omega
            rw [k3]
            refine ⟨_, rfl, dS, .inl (b : Int), fS, rfl, rfl, kS, _, rfl, ?_⟩
            have hk3 := hSg b
            by_cases hsg : Co01.SIGNS.contains b = true
            · rw [if_pos hsg] at hk3
              obtain ⟨tk, hk3⟩ := hk3
              rw [hk3]
              refine ⟨_, rfl, .inl ⟨rfl, _, .inl (.inl hT)⟩, _, rfl, dS, .inl (b : Int), fS, _, .str (sB [b]), rfl, rfl, kS, hk3, ⟨tk, rfl⟩, _, rfl, dS, .inl (b : Int), fS, _, .str (sB [b]), rfl, rfl, kS, hk3, ⟨tk, rfl⟩, _, rfl, (by show 3 ≤ sizeLine; decide), fun t2 hn => ?_⟩
              have s2 : Same H' (upd H' t2 (.tup [.str (sB [b]), .str (sB [b]), .int p])) := fun x o q => by
                by_cases c : x = t2
                · rw [c, hn] at q; cases q
                · rw [upd_ne c]; exact q
              have ap := app _ _ t2 s2 hn upd_same
              have n32 : b ≠ 32 := by rintro rfl; exact absurd hsg (by decide +kernel)
              rw [Co01.lex, if_neg n32, if_neg hs, if_neg hg, if_pos hsg, map_snoc] at e
              refine ⟨t, _, _, rfl, rfl, s2 _ _ hT, ?_, _, rfl, next (p + 1) _ _ (as ++ [t2]) (done ++ [(p, .sign b)]) (by omega) (by omega) ap.1 ap.2.1 (by rw [List.map_append]; exact ap.2.2) (by rw [List.length_append, List.length_singleton]; omega) e⟩
              rw [List.length_map, hasl]
              exact small1000 (by omega)
            · rw [if_neg hsg] at hk3
              rw [hk3]
              refine ⟨_, rfl, rfl, _, rfl, ?_⟩
              by_cases h32 : b = 32
              · have : (!decide (V.int (b : Int) = V.int 32)) = false := by rw [h32]; rfl
                rw [this]
                rw [h32, Co01.lex, if_pos rfl] at e
                exact ⟨_, rfl, next (p + 1) _ _ as done (by omega) (by omega) kH hT tu (by omega) e⟩
              · have : (!decide (V.int (b : Int) = V.int 32)) = true := by
                  rw [Bool.not_eq_true', decide_eq_false_iff_not]
                  intro q
                  have := V.int.inj q
                  omega
                rw [this]
                rw [Co01.lex, if_neg h32, if_neg hs, if_neg hg, if_neg hsg] at e
                exact ⟨_, rfl, _, rfl, fun d hd => hE p e _ kH d hd⟩
      · rw [decide_eq_false (show ¬ (p : Int) < (bs.length : Int) by omega)]
        obtain ⟨k, rfl⟩ : ∃ k', k = k' + 1 := ⟨k - 1, by omega⟩
        have hnil : bs.drop p = [] := List.drop_eq_nil_of_le (by omega)
        rw [hnil, Co01.lex] at e
        have e2 : Co01.lex (bs.length + 1) 0 bs = .ok done := by rw [e]; simp [Except.map]
        have hasl : as.length = done.length := by rw [tu.length, List.length_map]
        refine ⟨_, rfl, .inl ⟨rfl, _, .inl (.inl hT)⟩, _, rfl, a, nats bs, rfl, .inl hS', (by show 3 ≤ sizeLine; decide), fun t2 hn => ?_⟩
        rw [hlen]
        have ne : t2 ≠ t := fun q => by rw [q, hT] at hn; cases hn
        have s2 : Same H' (upd H' t2 (.tup (endTup bs.length))) := fun x o q => by
          by_cases c : x = t2
          · rw [c, hn] at q; cases q
          · rw [upd_ne c]; exact q
        refine ⟨t, _, _, rfl, rfl, s2 _ _ hT, ?_, _, rfl, hO done e2 _ t (up (kH.trans s2) ht) ht ⟨as ++ [t2], by rw [upd_same, List.map_append]; rfl, (tu.keeps fun b x e => ?_).snoc ?_⟩⟩
        · rw [List.length_map, hasl]
          exact small1000 (by omega)
        · rw [upd_ne (fun q => by rw [q, hT] at e; cases e)]
          exact s2 b _ e
        · rw [upd_ne ne]; exact upd_same
end
end Bd
end
section
set_option Elab.async false
set_option linter.all false
set_option maxRecDepth 100000
set_option maxHeartbeats 2000000
set_option autoImplicit false
namespace Bd
open PySem PySem.Spec PyProof.Rows L2
section
variable {P : Program} {w : World} {K : PySem.W.Frag} {mg : Str → Option Value} {base : Heap} {f : Addr} {fd : FuncData}
theorem Tups.at_ {H : Hp} {as : List Addr} {xs : List (List V)} (t : Tups H as xs) : ∀ {i : Nat} {v : V}, (as.map V.ref)[i]? = some v → ∃ a x, v = .ref a ∧ xs[i]? = some x ∧ H a = some (.tup x) := by
  induction t with
  | nil => intro i v h; simp at h
  | @cons a x as xs e _ ih =>
    intro i v h
    cases i with
    | zero => simp at h; exact ⟨a, x, h.symm, rfl, e⟩
    | succ i => simp at h; obtain ⟨b, y, h1, h2, h3⟩ := ih (i := i) (v := v) (by simpa using h); exact ⟨b, y, h1, by simpa using h2, h3⟩
theorem tokNames_app : ∀ (a b : Co01.Rest), Mx.tokNames (a ++ b) = Mx.tokNames a ++ Mx.tokNames b
  | [], b => rfl
  | (p, .word u) :: a, b => by
    show (if Co01.isName u = true then u :: Mx.tokNames (a ++ b) else Mx.tokNames (a ++ b)) = (if Co01.isName u = true then u :: Mx.tokNames a else Mx.tokNames a) ++ Mx.tokNames b
    rw [tokNames_app a b]
    split <;> rfl
  | (p, .num n) :: a, b => tokNames_app a b
  | (p, .sign c) :: a, b => tokNames_app a b
theorem once_snoc (l : List Co01.Bytes) (x : Co01.Bytes) : Co01.once (l ++ [x]) = if (Co01.once l).contains x = true then Co01.once l else Co01.once l ++ [x] := by
  unfold Co01.once
  rw [List.foldl_append]
  rfl
theorem once_le (l : List Co01.Bytes) : (Co01.once l).length ≤ l.length := by
  suffices ∀ (l a : List Co01.Bytes), (l.foldl (fun (a : List Co01.Bytes) (x : Co01.Bytes) => if a.contains x = true then a else a ++ [x]) a).length ≤ a.length + l.length by
    have := this l []
    simpa [Co01.once] using this
  intro l
  induction l with
  | nil => intro a; simp
  | cons x l ih =>
    intro a
    rw [List.foldl_cons]
    refine Nat.le_trans (ih _) ?_
    split <;> simp <;> omega
theorem tokNames_le : ∀ (a : Co01.Rest), (Mx.tokNames a).length ≤ a.length
  | [] => Nat.le_refl _
  | (p, .word u) :: a => by
    have := tokNames_le a
    show (if Co01.isName u = true then u :: Mx.tokNames a else Mx.tokNames a).length ≤ _
    split <;> simp <;> omega
  | (p, .num n) :: a => by have := tokNames_le a; show (Mx.tokNames a).length ≤ _; simp; omega
  | (p, .sign c) :: a => by have := tokNames_le a; show (Mx.tokNames a).length ≤ _; simp; omega
theorem kind_name (u : List Nat) : (kindOf u = Str.ofString "name") ↔ Co01.isName u = true := by
  unfold kindOf
  constructor
  · intro h
    by_cases c : Co01.isName u = true
    · exact c
    · rw [if_neg c] at h
      have e : Str.ofString "name" = sB (Co01.ascii "name") := by decide +kernel
      rw [e] at h
      have := sB_inj.mp h
      rw [this] at c
      exact absurd (by decide +kernel) c
  · intro h; rw [if_pos h]
def texts (l : List Co01.Bytes) : List V := l.map fun w => V.str (sB w)
theorem in_texts (x : Co01.Bytes) (l : List Co01.Bytes) : inV (.str (sB x)) (texts l) = l.contains x := by
  induction l with
  | nil => rfl
  | cons a L ih =>
    rw [List.contains_cons, ← ih]
    show (eqV (.str (sB a)) (.str (sB x)) || inV (.str (sB x)) (texts L)) = _
    congr 1
    show (sB a == sB x) = (x == a)
    rw [Bool.eq_iff_iff, beq_iff_eq, beq_iff_eq, sB_inj]
    exact ⟨Eq.symm, Eq.symm⟩
theorem flat_texts (l : List Co01.Bytes) : (texts l).all flatV = true := by
  induction l with
  | nil => rfl
  | cons a L ih => show (flatV (V.str (sB a)) && (texts L).all flatV) = true; rw [ih]; rfl
/-! ## names_of -/
abbrev sNames : Stmt := top 53
def spNames : Sp := fun vs H Q _ => ∃ (t : Addr) (toks : Co01.Rest) (e : Nat), vs = [.ref t] ∧ TokL H t toks e ∧ toks.length ≤ 1000 ∧ ∀ (H' : Hp) (n : Addr), Same H H' → H n = none → H' n = some (.lst (texts (Co01.once (Mx.tokNames toks)))) → Q (.ref n) H'
theorem scNames : FnScope ["tokens", "names", "kind", "value", "place"] ["tokens"] (defScope sNames) := ⟨rfl, rfl, rfl, by decide +kernel, rfl, by decide +kernel, by decide +kernel⟩
theorem ok_names (F : FnP K "names_of" sNames f fd) : FnOk P w K mg base CX0 1 f fd ["tokens"] spNames := by
  refine F.ok scNames (fun vs H Q E h => ?_) (fun cdv A outer s H vs Q E hr h => ⟨_, (pss_cons (ps_set (i := 1) scNames.nd rfl (.inl rfl) (pe_lst pa_nil))
    (pss_cons (ps_for PassesOwn.never rfl (pi_list (pv 0)) (pg_tup rfl (pgs_cons (pg_name (i := 2) scNames.nd rfl (.inl rfl)) (pgs_cons (pg_name (i := 3) scNames.nd rfl (.inl rfl)) (pgs_cons (pg_name (i := 4) scNames.nd rfl (.inl rfl)) pgs_nil))))
      (pss_one (ps_if (PW.pt (pw_and (pt_cmpR op_eq (pv 2) pe_str (nomark _)) (pw_and1 (pt_cmpR op_notIn_seq (pv 3) (pv 1) rfl))))
        (pss_one (ps_expr (pe_bm PySem.F.plainAttrs_list PySem.F.slot_list_append PySem.F.type_list_append mt_append (pv 1) (pa_cons (pv 3) pa_nil)))) pss_nil)))
    (pss_one (ps_ret (pv 1))))), ?_⟩)
  · obtain ⟨t, toks, e, rfl, _⟩ := h
    rfl
  · obtain ⟨t, toks, e, rfl, ⟨as, hT, tu⟩, hz, q⟩ := h
    refine ⟨by decide, fun n hn => ?_⟩
    have ne : t ≠ n := fun q => by rw [q, hn] at hT; cases hT
    have up : ∀ {H' : Hp} {u : Addr} {o : HO}, Same H H' → H u = none → Same H (upd H' u o) := fun {H' u o} k hu b x e => by
      by_cases c : b = u
      · rw [c, hu] at e; cases e
      · rw [upd_ne c]; exact k b x e
    have hal : as.length = toks.length + 1 := by rw [tu.length, List.length_append, List.length_map]; rfl
    refine ⟨_, rfl, t, rfl, ⟨as.map V.ref, .inl (.inl (by rw [upd_ne ne]; exact hT))⟩, for_list (K := K) (a := t) (xs := as.map V.ref) (fun i σ H' => ∃ o2 o3 o4 : Option V, σ = [some (.ref t), some (.ref n), o2, o3, o4] ∧ Same H H' ∧ H' n = some (.lst (texts (Co01.once (Mx.tokNames (toks.take i))))))
      ⟨none, none, none, rfl, up (Same.refl H) hn, upd_same⟩ (fun i σ H' _ h => by obtain ⟨_, _, _, _, k, _⟩ := h; exact .inl (.inl (k _ _ hT))) (fun i x σ H' hi h => ?_) (fun σ H' h => ?_)⟩
    · obtain ⟨o2, o3, o4, rfl, k, hN⟩ := h
      obtain ⟨a, y, rfl, hy, ha⟩ := tu.at_ hi
      have ha' := k _ _ ha
      have hiL : i < toks.length + 1 := by
        have := (List.getElem?_eq_some_iff.mp hi).1
        rw [List.length_map, hal] at this
        exact this
      -- the three items of the tuple
      by_cases hlast : i < toks.length
      · have hx : toks[i]? = some toks[i] := List.getElem?_eq_getElem hlast
        have hyx : y = tokTup toks[i] := by
          rw [List.getElem?_append_left (by rw [List.length_map]; exact hlast), List.getElem?_map, hx] at hy
          exact (Option.some.inj hy).symm
        have hst : toks.take (i + 1) = toks.take i ++ [toks[i]] := by rw [List.take_add_one, hx]; rfl
        generalize toks[i] = x at *
        subst hyx
        have stay : ∀ (o2 o3 o4 : Option V), Mx.tokNames [x] = [] → ∃ o2' o3' o4' : Option V, [some (.ref t), some (.ref n), o2, o3, o4] = [some (.ref t), some (.ref n), o2', o3', o4'] ∧ Same H H' ∧ H' n = some (.lst (texts (Co01.once (Mx.tokNames (toks.take (i + 1)))))) := fun o2 o3 o4 h0 => ⟨o2, o3, o4, rfl, k, by rw [hst, tokNames_app, h0, List.append_nil]; exact hN⟩
        obtain ⟨p, tk⟩ := x
        cases tk with
        | num m =>
          refine ⟨a, _, rfl, .inl (.inl ha'), rfl, _, _, rfl, _, _, rfl, _, _, rfl, rfl, ?_⟩
          exact ⟨_, rfl, rfl, _, rfl, stay _ _ _ rfl⟩
        | sign c =>
          refine ⟨a, _, rfl, .inl (.inl ha'), rfl, _, _, rfl, _, _, rfl, _, _, rfl, rfl, ?_⟩
          refine ⟨_, rfl, rfl, _, rfl, ?_⟩
          have : decide (V.str (sB [c]) = V.str (Str.ofString "name")) = false := by
            rw [decide_eq_false_iff_not]
            intro q
            have e : Str.ofString "name" = sB (Co01.ascii "name") := by decide +kernel
            have := congrArg List.length (sB_inj.mp ((V.str.inj q).trans e))
            exact absurd (show 1 = 4 from this) (by decide)
          rw [this]
          exact stay _ _ _ rfl
        | word u =>
          refine ⟨a, _, rfl, .inl (.inl ha'), rfl, _, _, rfl, _, _, rfl, _, _, rfl, rfl, ?_⟩
          refine ⟨_, rfl, rfl, _, rfl, ?_⟩
          by_cases hu : Co01.isName u = true
          · have : decide (V.str (kindOf u) = V.str (Str.ofString "name")) = true := by rw [decide_eq_true_eq, (kind_name u).mpr hu]
            rw [this]
            have h1 : Mx.tokNames [(p, Co01.Tok.word u)] = [u] := by show (if Co01.isName u = true then [u] else []) = _; rw [if_pos hu]
            refine ⟨_, rfl, _, rfl, n, texts (Co01.once (Mx.tokNames (toks.take i))), rfl, .inl (.inl (.inl hN)), rfl, flat_texts _, _, rfl, ?_⟩
            show if (if true = true then !inV (.str (sB u)) (texts (Co01.once (Mx.tokNames (toks.take i)))) else _) = true then _ else _
            rw [if_pos rfl, in_texts]
            by_cases hc : (Co01.once (Mx.tokNames (toks.take i))).contains u = true
            · rw [hc]
              exact ⟨_, _, _, rfl, k, by rw [hst, tokNames_app, h1, once_snoc, if_pos hc]; exact hN⟩
            · rw [Bool.eq_false_iff.mpr hc]
              refine ⟨_, rfl, .inl ⟨rfl, _, .inl (.inl hN)⟩, _, rfl, n, _, _, rfl, rfl, hN, ?_, _, _, _, rfl, up k hn, ?_⟩
              · refine small1000 ?_
                have h3 := once_le (Mx.tokNames (toks.take i))
                have h4 := tokNames_le (toks.take i)
                have h5 := List.length_take_le i toks
                have h6 : (texts (Co01.once (Mx.tokNames (toks.take i)))).length = (Co01.once (Mx.tokNames (toks.take i))).length := by simp [texts]
                have h7 : (toks.take i).length ≤ toks.length := by rw [List.length_take]; omega
                omega
              · rw [upd_same, hst, tokNames_app, h1, once_snoc, if_neg hc]
                simp [texts]
          · have : decide (V.str (kindOf u) = V.str (Str.ofString "name")) = false := by
              rw [decide_eq_false_iff_not]
              intro q
              exact hu ((kind_name u).mp (V.str.inj q))
            rw [this]
            exact stay _ _ _ (by show (if Co01.isName u = true then [u] else []) = _; rw [if_neg hu])
      · have hi2 : i = toks.length := by omega
        have hyx : y = endTup e := by
          rw [List.getElem?_append_right (by rw [List.length_map]; omega), List.length_map, hi2, Nat.sub_self] at hy
          exact (Option.some.inj hy).symm
        subst hyx
        refine ⟨a, _, rfl, .inl (.inl ha'), rfl, _, _, rfl, _, _, rfl, _, _, rfl, rfl, ?_⟩
        refine ⟨_, rfl, rfl, _, rfl, _, _, _, rfl, k, ?_⟩
        rw [List.take_of_length_le (by omega)]
        rw [List.take_of_length_le (by omega)] at hN
        exact hN
    · obtain ⟨o2, o3, o4, rfl, k, hN⟩ := h
      rw [List.length_map, hal, List.take_of_length_le (by omega)] at hN
      exact ⟨_, rfl, q _ n k hn hN⟩
end
end Bd
end
section
set_option Elab.async false
set_option linter.all false
set_option maxRecDepth 100000
set_option maxHeartbeats 2000000
set_option autoImplicit false
namespace Bd
open PySem PySem.Spec PyProof.Rows L2
section
variable {P : Program} {w : World} {K : PySem.W.Frag} {mg : Str → Option Value} {base : Heap} {f : Addr} {fd : FuncData}
/-- all but st as it was -/
def But (st : Addr) (H H' : Hp) : Prop := ∀ b o, H b = some o → b ≠ st → H' b = some o
theorem Same.but {st : Addr} {H H' : Hp} (h : Same H H') : But st H H' := fun b o e _ => h b o e
theorem But.trans {st : Addr} {H H1 H2 : Hp} (a : But st H H1) (b : But st H1 H2) : But st H H2 := fun c o e n => b c o (a c o e n) n
theorem But.upd {st : Addr} {H H' : Hp} (a : But st H H') (o : HO) : But st H (upd H' st o) := fun c x e n => by rw [upd_ne n]; exact a c x e n
theorem But.new {st : Addr} {H H' : Hp} (a : But st H H') {p : Addr} (hp : H p = none) (o : HO) : But st H (L2.upd H' p o) := fun c x e n => by
  rw [upd_ne (fun q => by rw [q, hp] at e; cases e)]; exact a c x e n
/-! ## taken_parts -/
abbrev sTaken : Stmt := top 8
def CountsG (w : World) (K : PySem.W.Frag) (mg : Str → Option Value) : Prop := ∃ d, mg "PART_COUNTS" = some (.ref d) ∧ ∀ x ∈ COUNTS, KDct K w d x.1 (.int x.2)
def spTaken : Sp := fun vs H Q _ => ∃ (s : Addr) (word : Str) (n : Nat) (rest ps : List V), vs = [.ref s, .str word] ∧ (word, n) ∈ COUNTS ∧ H s = some (.lst (rest ++ ps)) ∧ ps.length = n ∧
  ∀ (H' : Hp) (p : Addr), H p = none → H' p = some (.lst ps) → H' s = some (.lst rest) → But s H H' → Q (.ref p) H'
theorem scTaken : FnScope ["stack", "word", "parts", "turn"] ["stack", "word"] (defScope sTaken) := ⟨rfl, rfl, rfl, by decide +kernel, rfl, by decide +kernel, by decide +kernel⟩
theorem ok_taken (F : FnP K "taken_parts" sTaken f fd) (gC : CountsG w K mg) (gR : mg "range" = none) : FnOk P w K mg base CX0 1 f fd ["stack", "word"] spTaken := by
  obtain ⟨dC, mC, hC⟩ := gC
  refine F.ok scTaken (fun vs H Q E h => ?_) (fun cdv A outer s H vs Q E hr h => ⟨_, (pss_cons (ps_set (i := 2) scTaken.nd rfl (.inl rfl) (pe_lst pa_nil))
    (pss_cons (ps_for PassesOwn.never rfl (pi_range1 rfl gR (pa_cons (pe_ix ix_kdict (pe_glob (v := .ref dC) (by rfl) mC rfl) (pv 1) (fun _ _ => rfl)) pa_nil)) (pg_name (i := 3) scTaken.nd rfl (.inl rfl))
      (pss_one (ps_expr (pe_bm PySem.F.plainAttrs_list PySem.F.slot_list_insert PySem.F.type_list_insert mt_insert (pv 2) (pa_cons pe_int (pa_cons (pe_bm0 PySem.F.plainAttrs_list PySem.F.slot_list_pop PySem.F.type_list_pop mt_pop (pv 0)) pa_nil))))))
    (pss_one (ps_ret (pv 2))))), ?_⟩)
  · obtain ⟨s, word, n, rest, ps, rfl, _⟩ := h
    rfl
  · obtain ⟨a, word, n, rest, ps, rfl, hm, hS, hn, q⟩ := h
    refine ⟨by decide, fun p hp => ?_⟩
    have ne : a ≠ p := fun q => by rw [q, hp] at hS; cases hS
    have n2 : n ≤ 2 := (by decide +kernel : ∀ x ∈ COUNTS, x.2 ≤ 2) _ hm
    refine ⟨_, rfl, dC, word, .int n, rfl, rfl, hC _ hm, ?_⟩
    have hpl : ps.length ≤ 2 := by omega
    refine ⟨(n : Int), rfl, by omega, by omega, ?_⟩
    rw [Int.toNat_natCast]
    refine for_range (fun i σ H' => ∃ (o3 : Option V) (A B : List V), σ = [some (.ref a), some (.str word), some (.ref p), o3] ∧ ps = A ++ B ∧ B.length = i ∧ H' a = some (.lst (rest ++ A)) ∧ H' p = some (.lst B) ∧ But a H H')
      ⟨none, ps, [], rfl, (List.append_nil _).symm, rfl, by rw [upd_ne ne]; exact hS, upd_same, (show But a H H from fun _ _ e _ => e).new hp _⟩ (fun i σ H' hi h => ?_) (fun σ H' h => ?_)
    · obtain ⟨o3, A, B, rfl, e, hB, hA, hP, k⟩ := h
      obtain ⟨A', y, rfl⟩ : ∃ A' y, A = A' ++ [y] := by
        rcases List.eq_nil_or_concat A with h | ⟨A', y, h⟩
        · rw [h, List.nil_append] at e; rw [e] at hn; omega
        · exact ⟨A', y, by rw [h, List.concat_eq_append]⟩
      have hBl : B.length ≤ 2 := by omega
      refine ⟨_, rfl, .inl ⟨rfl, _, .inl (.inl hP)⟩, _, rfl, .inl ⟨rfl, _, .inl (.inl hA)⟩, a, rest ++ (A' ++ [y]), y, rfl, rfl, hA, ?_, p, B, 0, y, rfl, rfl, by rw [upd_ne ne.symm]; exact hP, ?_, by decide, by decide, _, A', y :: B, rfl, by rw [e, List.append_assoc]; rfl, by rw [List.length_cons, hB], ?_, by rw [upd_same]; rfl, ?_⟩
      · rw [← List.append_assoc, List.length_append, List.length_singleton, Nat.add_sub_cancel]; simp
      · exact small1000 (by omega)
      · rw [upd_ne ne, upd_same, ← List.append_assoc, List.dropLast_concat]
      · exact (k.upd _).new hp _
    · obtain ⟨o3, A, B, rfl, e, hB, hA, hP, k⟩ := h
      have hA0 : A = [] := by
        cases A with
        | nil => rfl
        | cons z A => rw [e, List.length_append, List.length_cons] at hn; omega
      subst hA0
      rw [List.nil_append] at e
      subst e
      rw [List.append_nil] at hA
      exact ⟨_, rfl, q H' p hp hP hA k⟩
end
end Bd
end
section
set_option Elab.async false
set_option linter.all false
set_option maxRecDepth 100000
set_option maxHeartbeats 2000000
set_option autoImplicit false
namespace Bd
open PySem PySem.Spec PyProof.Rows L2
theorem if_ne {a b : Str} {X Y : Prop} (h : (a == b) = false) (y : Y) : if decide (V.str a = V.str b) = true then X else Y := by
  rw [if_neg]
  · exact y
  · rw [decide_eq_true_eq]
    intro q
    rw [V.str.inj q] at h
    simp at h
theorem if_eq {a b : Str} {X Y : Prop} (h : a = b) (x : X) : if decide (V.str a = V.str b) = true then X else Y := by
  subst h
  rw [if_pos (decide_eq_true rfl)]
  exact x
section
variable {P : Program} {w : World} {K : PySem.W.Frag} {mg : Str → Option Value} {base : Heap} {f : Addr} {fd : FuncData}
def wOp : Mx.Op2 → Str
  | .add => "+" | .sub => "-" | .mul => "*" | .max => "max" | .min => "min"
def wCmp : Mx.Cmp → Str
  | .less => "<" | .same => "=" | .more => ">"
/-! ## combined -/
abbrev sComb : Stmt := top 12
def spComb : Sp := fun vs H Q _ => ∃ (o : Mx.Op2) (a b : Int), vs = [.str (wOp o), .int a, .int b] ∧ a.natAbs.log2 + b.natAbs.log2 < 1000000 ∧ Q (.int (Mx.op2 o a b)) H
theorem scComb : FnScope ["word", "left", "right"] ["word", "left", "right"] (defScope sComb) := ⟨rfl, rfl, rfl, by decide +kernel, rfl, by decide +kernel, by decide +kernel⟩
theorem ok_comb (F : FnP K "combined" sComb f fd) (gM : mg "max" = none) (gm : mg "min" = none) : FnOk P w K mg base CX0 1 f fd ["word", "left", "right"] spComb := by
  refine F.ok scComb (fun vs H Q E h => ?_) (fun cdv A outer s H vs Q E hr h => ⟨_, (pss_cons (ps_if (pt_cmpR op_eq (pv 0) pe_str (nomark _)) (pss_one (ps_ret (pe_op op_add (pv 1) (pv 2)))) pss_nil)
    (pss_cons (ps_if (pt_cmpR op_eq (pv 0) pe_str (nomark _)) (pss_one (ps_ret (pe_op op_sub (pv 1) (pv 2)))) pss_nil)
    (pss_cons (ps_if (pt_cmpR op_eq (pv 0) pe_str (nomark _)) (pss_one (ps_ret (pe_op op_mulW (pv 1) (pv 2)))) pss_nil)
    (pss_cons (ps_if (pt_cmpR op_eq (pv 0) pe_str (nomark _)) (pss_one (ps_ret (pe_callB (call_max2 rfl) rfl gM (by decide +kernel) (pa_cons (pv 1) (pa_cons (pv 2) pa_nil))))) pss_nil)
    (pss_one (ps_ret (pe_callB (call_min2 rfl) rfl gm (by decide +kernel) (pa_cons (pv 1) (pa_cons (pv 2) pa_nil))))))))), ?_⟩)
  · obtain ⟨o, a, b, rfl, _⟩ := h
    rfl
  · obtain ⟨o, a, b, rfl, hb, q⟩ := h
    refine ⟨_, rfl, rfl, _, rfl, ?_⟩
    cases o with
    | add => exact if_eq rfl ⟨_, rfl, _, rfl, _, _, rfl, rfl, q⟩
    | sub =>
      refine if_ne (by decide) ⟨_, rfl, rfl, _, rfl, ?_⟩
      exact if_eq rfl ⟨_, rfl, _, rfl, _, _, rfl, rfl, q⟩
    | mul =>
      refine if_ne (by decide) ⟨_, rfl, rfl, _, rfl, if_ne (by decide) ⟨_, rfl, rfl, _, rfl, ?_⟩⟩
      exact if_eq rfl ⟨_, rfl, _, rfl, _, _, rfl, rfl, hb, q⟩
    | max =>
      refine if_ne (by decide) ⟨_, rfl, rfl, _, rfl, if_ne (by decide) ⟨_, rfl, rfl, _, rfl, if_ne (by decide) ⟨_, rfl, rfl, _, rfl, ?_⟩⟩⟩
      exact if_eq rfl ⟨_, rfl, _, rfl, _, _, rfl, q⟩
    | min =>
      refine if_ne (by decide) ⟨_, rfl, rfl, _, rfl, if_ne (by decide) ⟨_, rfl, rfl, _, rfl, if_ne (by decide) ⟨_, rfl, rfl, _, rfl, ?_⟩⟩⟩
      exact if_ne (by decide) ⟨_, rfl, _, rfl, _, _, rfl, q⟩
/-! ## compared -/
abbrev sComp : Stmt := top 13
def spComp : Sp := fun vs H Q _ => ∃ (o : Mx.Cmp) (a b : Int), vs = [.str (wCmp o), .int a, .int b] ∧ Q (.bl (Mx.cmp2 o a b)) H
theorem scComp : FnScope ["word", "left", "right"] ["word", "left", "right"] (defScope sComp) := ⟨rfl, rfl, rfl, by decide +kernel, rfl, by decide +kernel, by decide +kernel⟩
theorem ok_comp (F : FnP K "compared" sComp f fd) : FnOk P w K mg base CX0 1 f fd ["word", "left", "right"] spComp := by
  refine F.ok scComp (fun vs H Q E h => ?_) (fun cdv A outer s H vs Q E hr h => ⟨_, (pss_cons (ps_if (pt_cmpR op_eq (pv 0) pe_str (nomark _)) (pss_one (ps_ret (pe_cmpR op_lt (pv 1) (pv 2) (nomark _)))) pss_nil)
    (pss_cons (ps_if (pt_cmpR op_eq (pv 0) pe_str (nomark _)) (pss_one (ps_ret (pe_cmpR op_eq (pv 1) (pv 2) (nomark _)))) pss_nil)
    (pss_one (ps_ret (pe_cmpR op_gt (pv 1) (pv 2) (nomark _)))))), ?_⟩)
  · obtain ⟨o, a, b, rfl, _⟩ := h
    rfl
  · obtain ⟨o, a, b, rfl, q⟩ := h
    refine ⟨_, rfl, rfl, _, rfl, ?_⟩
    cases o with
    | less => exact if_eq rfl ⟨_, rfl, _, rfl, _, _, rfl, rfl, q⟩
    | same =>
      refine if_ne (by decide) ⟨_, rfl, rfl, _, rfl, if_eq rfl ⟨_, rfl, _, rfl, rfl, ?_⟩⟩
      have e : Mx.cmp2 .same a b = decide (V.int a = V.int b) := by
        show decide (a = b) = _
        refine decide_eq_decide.mpr ⟨fun h => by rw [h], fun h => V.int.inj h⟩
      rw [e] at q
      exact q
    | more => exact if_ne (by decide) ⟨_, rfl, rfl, _, rfl, if_ne (by decide) ⟨_, rfl, _, rfl, _, _, rfl, rfl, q⟩⟩
end
end Bd
end
section
set_option Elab.async false
set_option linter.all false
set_option maxRecDepth 100000
set_option maxHeartbeats 4000000
set_option autoImplicit false
namespace Bd
open PySem PySem.Spec PyProof.Rows L2
section
variable {P : Program} {w : World} {K : PySem.W.Frag} {mg : Str → Option Value} {base : Heap} {f : Addr} {fd : FuncData}
def rvV : Mx.RV → V
  | .int i => .int i
  | .bl b => .bl b
/-! ## settled -/
abbrev sSett : Stmt := top 14
/-- (word, parts, what comes) -/
def SettOk (word : Str) (ps : List V) (r : Bool) : Prop := (word = "not" ∧ ∃ a, ps = [.bl a] ∧ r = !a) ∨ (word = "&" ∧ ∃ a b, ps = [.bl a, .bl b] ∧ r = (a && b)) ∨ (word = "|" ∧ ∃ a b, ps = [.bl a, .bl b] ∧ r = (a || b))
def spSett : Sp := fun vs H Q _ => ∃ (word : Str) (p : Addr) (ps : List V) (r : Bool), vs = [.str word, .ref p] ∧ H p = some (.lst ps) ∧ SettOk word ps r ∧ Q (.bl r) H
theorem scSett : FnScope ["word", "parts"] ["word", "parts"] (defScope sSett) := ⟨rfl, rfl, rfl, by decide +kernel, rfl, by decide +kernel, by decide +kernel⟩
theorem ok_sett (F : FnP K "settled" sSett f fd) : FnOk P w K mg base CX0 1 f fd ["word", "parts"] spSett := by
  refine F.ok scSett (fun vs H Q E h => ?_) (fun cdv A outer s H vs Q E hr h => ⟨_, (pss_cons (ps_if (pt_cmpR op_eq (pv 0) pe_str (nomark _)) (pss_one (ps_ret (pe_not (pe_ix ix_list (pv 1) pe_int (fun _ _ => rfl))))) pss_nil)
    (pss_cons (ps_if (pt_cmpR op_eq (pv 0) pe_str (nomark _)) (pss_one (ps_ret (pe_and (pe_ix ix_list (pv 1) pe_int (fun _ _ => rfl)) (pe_one (pe_ix ix_list (pv 1) pe_int (fun _ _ => rfl)))))) pss_nil)
    (pss_one (ps_ret (pe_or (pe_ix ix_list (pv 1) pe_int (fun _ _ => rfl)) (pe_one (pe_ix ix_list (pv 1) pe_int (fun _ _ => rfl)))))))), ?_⟩)
  · obtain ⟨word, p, ps, r, rfl, _⟩ := h
    rfl
  · obtain ⟨word, p, ps, r, rfl, hp, ok, q⟩ := h
    refine ⟨_, rfl, rfl, _, rfl, ?_⟩
    rcases ok with ⟨rfl, a, rfl, rfl⟩ | ⟨rfl, a, b, rfl, rfl⟩ | ⟨rfl, a, b, rfl, rfl⟩
    · exact if_eq rfl ⟨_, rfl, p, _, _, .bl a, rfl, rfl, .inl (.inl hp), rfl, a, rfl, q⟩
    · refine if_ne (by decide) ⟨_, rfl, rfl, _, rfl, if_eq rfl ⟨_, rfl, p, _, _, .bl a, rfl, rfl, .inl (.inl hp), rfl, a, rfl, ?_⟩⟩
      cases a with
      | false => exact q
      | true => exact ⟨_, rfl, p, _, _, .bl b, rfl, rfl, .inl (.inl hp), rfl, q⟩
    · refine if_ne (by decide) ⟨_, rfl, rfl, _, rfl, if_ne (by decide) ⟨_, rfl, p, _, _, .bl a, rfl, rfl, .inl (.inl hp), rfl, a, rfl, ?_⟩⟩
      cases a with
      | true => exact q
      | false => exact ⟨_, rfl, p, _, _, .bl b, rfl, rfl, .inl (.inl hp), rfl, q⟩
end
end Bd
end
section
set_option Elab.async false
set_option linter.all false
set_option maxRecDepth 100000
set_option maxHeartbeats 4000000
set_option autoImplicit false
namespace Bd
open PySem PySem.Spec PyProof.Rows L2
section
variable {P : Program} {w : World} {K : PySem.W.Frag} {mg : Str → Option Value} {base : Heap} {f : Addr} {fd : FuncData}
/-! ## reckoned -/
abbrev sReck : Stmt := top 11
def wordX : Mx.XS → Str
  | .num _ => "number" | .name _ => "name" | .neg => "negative" | .bin o => wOp o | .cmp o => wCmp o | .not => "not" | .and => "&" | .or => "|"
def detX : Mx.XS → V
  | .num n => .int n | .name b => .str (sB b) | _ => .non
def xsTup (x : Mx.XS) : List V := [.str (wordX x), detX x]
/-- the steps of an expression or a condition at a -/
def XsAt (H : Hp) (a : Addr) (s : List Mx.XS) : Prop := ∃ as, H a = some (.tup (as.map V.ref)) ∧ Tups H as (s.map xsTup)
def SeenAt (H : Hp) (d : Addr) (v : Co01.Seen) (ns : List Co01.Bytes) : Prop := ∃ kvs : List (Key × V), H d = some (.dK kvs) ∧ ∀ b ∈ ns, valV kvs (.inr (sB b)) = some (.int (Co01.seen v b))
def nmsX (s : List Mx.XS) : List Co01.Bytes := s.filterMap fun x => match x with | .name b => some b | _ => none
def spReck : Sp := fun vs H Q _ => ∃ (a d : Addr) (s : List Mx.XS) (v : Co01.Seen) (r : Mx.RV), vs = [.ref a, .ref d] ∧ XsAt H a s ∧ SeenAt H d v (nmsX s) ∧ Mx.Small v ∧ Mx.wtS s < 1000000 ∧ s.length ≤ 1000 ∧ Mx.rsteps v s [] = some [r] ∧
  ∀ H', Same H H' → Q (rvV r) H'
theorem if_in {x : V} {xs : List V} {X Y : Prop} (h : inV x xs = true) (hx : X) : if (if false = true then !inV x xs else inV x xs) = true then X else Y := by
  rw [if_neg Bool.false_ne_true, if_pos h]; exact hx
theorem if_out {x : V} {xs : List V} {X Y : Prop} (h : inV x xs = false) (hy : Y) : if (if false = true then !inV x xs else inV x xs) = true then X else Y := by
  rw [if_neg Bool.false_ne_true, if_neg (by rw [h]; exact Bool.false_ne_true)]; exact hy
/-- what a step takes and gives -/
def Does (v : Co01.Seen) : Mx.XS → List Mx.RV → Mx.RV → Prop
  | .num n, ps, r => ps = [] ∧ r = .int n
  | .name b, ps, r => ps = [] ∧ r = .int (Co01.seen v b)
  | .neg, ps, r => ∃ a, ps = [.int a] ∧ r = .int (-a)
  | .bin o, ps, r => ∃ a b, ps = [.int a, .int b] ∧ r = .int (Mx.op2 o a b)
  | .cmp o, ps, r => ∃ a b, ps = [.int a, .int b] ∧ r = .bl (Mx.cmp2 o a b)
  | .not, ps, r => ∃ a, ps = [.bl a] ∧ r = .bl (!a)
  | .and, ps, r => ∃ a b, ps = [.bl a, .bl b] ∧ r = .bl (a && b)
  | .or, ps, r => ∃ a b, ps = [.bl a, .bl b] ∧ r = .bl (a || b)
theorem rstep_inv {v : Co01.Seen} {x : Mx.XS} {m m' : List Mx.RV} (h : Mx.rstep v x m = some m') : ∃ ps l r, m = ps.reverse ++ l ∧ m' = r :: l ∧ Does v x ps r := by
  unfold Mx.rstep at h
  split at h
  · cases h; exact ⟨[], _, _, rfl, rfl, rfl, rfl⟩
  · cases h; exact ⟨[], _, _, rfl, rfl, rfl, rfl⟩
  · cases h; exact ⟨[_], _, _, rfl, rfl, _, rfl, rfl⟩
  · cases h; exact ⟨[_, _], _, _, rfl, rfl, _, _, rfl, rfl⟩
  · cases h; exact ⟨[_, _], _, _, rfl, rfl, _, _, rfl, rfl⟩
  · cases h; exact ⟨[_], _, _, rfl, rfl, _, rfl, rfl⟩
  · cases h; exact ⟨[_, _], _, _, rfl, rfl, _, _, rfl, rfl⟩
  · cases h; exact ⟨[_, _], _, _, rfl, rfl, _, _, rfl, rfl⟩
  · cases h
theorem does_count {v : Co01.Seen} {x : Mx.XS} {ps : List Mx.RV} {r : Mx.RV} (h : Does v x ps r) : (wordX x, ps.length) ∈ COUNTS := by
  cases x with
  | num n => obtain ⟨rfl, _⟩ := h; show ((Str.ofString "number", 0) : Str × Nat) ∈ COUNTS; decide +kernel
  | name n => obtain ⟨rfl, _⟩ := h; show ((Str.ofString "name", 0) : Str × Nat) ∈ COUNTS; decide +kernel
  | neg => obtain ⟨a, rfl, _⟩ := h; show ((Str.ofString "negative", 1) : Str × Nat) ∈ COUNTS; decide +kernel
  | bin o =>
    obtain ⟨a, b, rfl, _⟩ := h
    show ((wOp o, 2) : Str × Nat) ∈ COUNTS
    cases o <;> decide +kernel
  | cmp o =>
    obtain ⟨a, b, rfl, _⟩ := h
    show ((wCmp o, 2) : Str × Nat) ∈ COUNTS
    cases o <;> decide +kernel
  | not => obtain ⟨a, rfl, _⟩ := h; show ((Str.ofString "not", 1) : Str × Nat) ∈ COUNTS; decide +kernel
  | and => obtain ⟨a, b, rfl, _⟩ := h; show ((Str.ofString "&", 2) : Str × Nat) ∈ COUNTS; decide +kernel
  | or => obtain ⟨a, b, rfl, _⟩ := h; show ((Str.ofString "|", 2) : Str × Nat) ∈ COUNTS; decide +kernel
theorem But.fresh {st : Addr} {H H' : Hp} (a : But st H H') {p : Addr} (hp : H' p = none) (o : HO) : But st H (L2.upd H' p o) := fun c x e n => by
  have k := a c x e n
  rw [upd_ne (fun q => by rw [q, hp] at k; cases k)]; exact k
theorem keepAt {H : Hp} {t p : Addr} {o x : HO} (ht : H t = none) (e : H p = some x) : L2.upd H t o p = some x := by
  rw [upd_ne (fun q => by rw [q, ht] at e; cases e)]; exact e
theorem scReck : FnScope ["steps", "seen", "stack", "word", "detail", "parts"] ["steps", "seen"] (defScope sReck) := ⟨rfl, rfl, rfl, by decide +kernel, rfl, by decide +kernel, by decide +kernel⟩
theorem ok_reck {f1 f2 f3 f4 : Addr} {fd1 fd2 fd3 fd4 : FuncData} (F : FnP K "reckoned" sReck f fd)
    (F1 : FnP K "taken_parts" sTaken f1 fd1) (m1 : mg "taken_parts" = some (.ref f1)) (G1 : FnOk P w K mg base CX0 1 f1 fd1 ["stack", "word"] spTaken)
    (F2 : FnP K "combined" sComb f2 fd2) (m2 : mg "combined" = some (.ref f2)) (G2 : FnOk P w K mg base CX0 1 f2 fd2 ["word", "left", "right"] spComb)
    (F3 : FnP K "compared" sComp f3 fd3) (m3 : mg "compared" = some (.ref f3)) (G3 : FnOk P w K mg base CX0 1 f3 fd3 ["word", "left", "right"] spComp)
    (F4 : FnP K "settled" sSett f4 fd4) (m4 : mg "settled" = some (.ref f4)) (G4 : FnOk P w K mg base CX0 1 f4 fd4 ["word", "parts"] spSett) :
    FnOk P w K mg base CX0 2 f fd ["steps", "seen"] spReck := by
  have b1 : Binds K fd1 ["stack", "word"] [] := F1.binds fun _ _ _ _ _ _ us hl => match us, hl with | [_, _], _ => rfl
  have b2 : Binds K fd2 ["word", "left", "right"] [] := F2.binds fun _ _ _ _ _ _ us hl => match us, hl with | [_, _, _], _ => rfl
  have b3 : Binds K fd3 ["word", "left", "right"] [] := F3.binds fun _ _ _ _ _ _ us hl => match us, hl with | [_, _, _], _ => rfl
  have b4 : Binds K fd4 ["word", "parts"] [] := F4.binds fun _ _ _ _ _ _ us hl => match us, hl with | [_, _], _ => rfl
  refine F.ok scReck (fun vs H Q E h => ?_) (fun cdv A outer s H vs Q E hr h => ⟨_, (pss_cons (ps_set (i := 2) scReck.nd rfl (.inl rfl) (pe_lst pa_nil))
    (pss_cons (ps_for PassesOwn.never rfl (pi_tup (pv 0)) (pg_tup rfl (pgs_cons (pg_name (i := 3) scReck.nd rfl (.inl rfl)) (pgs_cons (pg_name (i := 4) scReck.nd rfl (.inl rfl)) pgs_nil)))
      (pss_cons (ps_set (i := 5) scReck.nd rfl (.inl rfl) (pe_call G1 hr rfl m1 F1.kp b1 .nil pass0 (pa_cons (pv 2) (pa_cons (pv 3) pa_nil))))
      (pss_one (ps_if (pt_cmpR op_eq (pv 3) pe_str (nomark _)) (pss_one (ps_expr (pe_bm PySem.F.plainAttrs_list PySem.F.slot_list_append PySem.F.type_list_append mt_append (pv 2) (pa_cons (pv 4) pa_nil))))
        (pss_one (ps_if (pt_cmpR op_eq (pv 3) pe_str (nomark _)) (pss_one (ps_expr (pe_bm PySem.F.plainAttrs_list PySem.F.slot_list_append PySem.F.type_list_append mt_append (pv 2) (pa_cons (pe_dget (hu_of hr) (pv 1) (pv 4) (fun _ _ => rfl)) pa_nil))))
          (pss_one (ps_if (pt_cmpR op_eq (pv 3) pe_str (nomark _)) (pss_one (ps_expr (pe_bm PySem.F.plainAttrs_list PySem.F.slot_list_append PySem.F.type_list_append mt_append (pv 2) (pa_cons (pe_un un_neg (pe_ix ix_list (pv 5) pe_int (fun _ _ => rfl))) pa_nil))))
            (pss_one (ps_if (pt_cmpR op_in_seq (pv 3) (pe_tup (pa_cons pe_str (pa_cons pe_str (pa_cons pe_str pa_nil)))) rfl) (pss_one (ps_expr (pe_bm PySem.F.plainAttrs_list PySem.F.slot_list_append PySem.F.type_list_append mt_append (pv 2) (pa_cons (pe_call G4 hr rfl m4 F4.kp b4 .nil pass0 (pa_cons (pv 3) (pa_cons (pv 5) pa_nil))) pa_nil))))
              (pss_one (ps_if (pt_cmpR op_in_seq (pv 3) (pe_tup (pa_cons pe_str (pa_cons pe_str (pa_cons pe_str pa_nil)))) rfl) (pss_one (ps_expr (pe_bm PySem.F.plainAttrs_list PySem.F.slot_list_append PySem.F.type_list_append mt_append (pv 2) (pa_cons (pe_call G3 hr rfl m3 F3.kp b3 .nil pass0 (pa_cons (pv 3) (pa_cons (pe_ix ix_list (pv 5) pe_int (fun _ _ => rfl)) (pa_cons (pe_ix ix_list (pv 5) pe_int (fun _ _ => rfl)) pa_nil)))) pa_nil))))
                (pss_one (ps_expr (pe_bm PySem.F.plainAttrs_list PySem.F.slot_list_append PySem.F.type_list_append mt_append (pv 2) (pa_cons (pe_call G2 hr rfl m2 F2.kp b2 .nil pass0 (pa_cons (pv 3) (pa_cons (pe_ix ix_list (pv 5) pe_int (fun _ _ => rfl)) (pa_cons (pe_ix ix_list (pv 5) pe_int (fun _ _ => rfl)) pa_nil)))) pa_nil))))))))))))))))
    (pss_one (ps_ret (pe_ix ix_list (pv 2) pe_int (fun _ _ => rfl)))))), ?_⟩)
  · obtain ⟨a, d, s, v, r, rfl, _⟩ := h
    rfl
  · obtain ⟨a, d, s, v, r, rfl, ⟨as, ha, tu⟩, ⟨kvs, hd, hn⟩, sm, wt, len, run, q⟩ := h
    refine ⟨by decide, fun st hst => ?_⟩
    have ne : a ≠ st := fun q => by rw [q, hst] at ha; cases ha
    have hal : as.length = s.length := by rw [tu.length, List.length_map]
    refine ⟨_, rfl, a, rfl, ⟨as.map V.ref, .inl (.inl (by rw [upd_ne ne]; exact ha))⟩, for_tup (K := K) (a := a) (xs := as.map V.ref) (fun i σ H' => ∃ (o3 o4 o5 : Option V) (m : List Mx.RV), σ = [some (.ref a), some (.ref d), some (.ref st), o3, o4, o5] ∧ Same H H' ∧ Mx.rsteps v (s.take i) [] = some m ∧ H' st = some (.lst (m.reverse.map rvV)))
      ⟨none, none, none, [], rfl, fun b o e => by rw [upd_ne (fun q => by rw [q, hst] at e; cases e)]; exact e, rfl, upd_same⟩ (fun i σ H' _ h => by obtain ⟨_, _, _, _, _, k, _⟩ := h; exact .inl (.inl (k _ _ ha))) (fun i y σ H' hi h => ?_) (fun σ H' h => ?_)⟩
    · obtain ⟨o3, o4, o5, m, rfl, k, hm, hS⟩ := h
      obtain ⟨b, y, rfl, hy, hb⟩ := tu.at_ hi
      have hb' := k _ _ hb
      rw [List.getElem?_map] at hy
      obtain ⟨x, hx, rfl⟩ := Option.map_eq_some_iff.mp hy
      obtain ⟨m', h1, h2⟩ := Mx.rsteps_next run hx hm
      obtain ⟨ps, l, r1, rfl, rfl, dz⟩ := rstep_inv h1
      have hSz : H' st = some (.lst (l.reverse.map rvV ++ ps.map rvV)) := by
        rw [hS, List.reverse_append, List.reverse_reverse, List.map_append]
      refine ⟨b, xsTup x, rfl, .inl (.inl hb'), rfl, _, _, rfl, _, _, rfl, rfl, ?_⟩
      refine ⟨_, rfl, _, rfl, st, wordX x, ps.length, l.reverse.map rvV, ps.map rvV, rfl, does_count dz, hSz, List.length_map .., fun H2 p hp0 hp hS2 bt => ?_⟩
      have lz : (l.reverse.map rvV).length < sizeLine := by
        refine small1000 ?_
        have := Mx.rsteps_len hm
        have h3 := List.length_take_le i s
        rw [List.length_append, List.length_nil] at this
        rw [List.length_map, List.length_reverse]
        have h4 : (s.take i).length ≤ s.length := by rw [List.length_take]; omega
        omega
      have fin : ∀ (o3 o4 o5 : Option V) (H3 : Hp), H3 st = some (.lst (l.reverse.map rvV ++ [rvV r1])) → But st H' H3 → ∃ (o3' o4' o5' : Option V) (m : List Mx.RV), [some (.ref a), some (.ref d), some (.ref st), o3, o4, o5] = [some (.ref a), some (.ref d), some (.ref st), o3', o4', o5'] ∧ Same H H3 ∧ Mx.rsteps v (s.take (i + 1)) [] = some m ∧ H3 st = some (.lst (m.reverse.map rvV)) :=
        fun o3 o4 o5 H3 e bt3 => ⟨o3, o4, o5, r1 :: l, rfl, fun c z ez => bt3 c z (k c z ez) (fun q => by rw [q, hst] at ez; cases ez), h2, by rw [e, List.reverse_cons, List.map_append]; rfl⟩
      have tySt : ∀ {H3 : Hp} {xs : List V}, H3 st = some (.lst xs) → tyV K "list" (.ref st) H3 := fun e => .inl ⟨rfl, _, .inl (.inl e)⟩
      have hd2 : ∀ {H3 : Hp}, But st H' H3 → H3 d = some (.dK kvs) := fun b3 => b3 _ _ (k _ _ hd) (fun q => by rw [q, hst] at hd; cases hd)
      refine ⟨_, rfl, rfl, _, rfl, ?_⟩
      cases x with
      | num n =>
        obtain ⟨rfl, rfl⟩ := dz
        exact if_eq rfl ⟨_, rfl, tySt hS2, _, rfl, st, _, _, rfl, rfl, hS2, lz, fin _ _ _ _ upd_same (bt.upd _)⟩
      | name c =>
        obtain ⟨rfl, rfl⟩ := dz
        have hv : valV kvs (.inr (sB c)) = some (.int (Co01.seen v c)) := hn c (List.mem_filterMap.mpr ⟨_, List.mem_of_getElem? hx, rfl⟩)
        refine if_ne (by show (Str.ofString "name" == Str.ofString "number") = false; decide) ⟨_, rfl, rfl, _, rfl, if_eq rfl ⟨_, rfl, tySt hS2, _, rfl, _, rfl, d, _, rfl, .inl ⟨kvs, .inr (sB c), .inl (hd2 bt), rfl, hv.symm⟩, st, _, _, rfl, rfl, hS2, lz, fin _ _ _ _ upd_same (bt.upd _)⟩⟩
      | neg =>
        obtain ⟨z, rfl, rfl⟩ := dz
        refine if_ne (by decide) ⟨_, rfl, rfl, _, rfl, if_ne (by decide) ⟨_, rfl, rfl, _, rfl, if_eq rfl ⟨_, rfl, tySt hS2, _, rfl, p, _, _, .int z, rfl, rfl, .inl (.inl hp), rfl, z, rfl, st, _, _, rfl, rfl, hS2, lz, fin _ _ _ _ upd_same (bt.upd _)⟩⟩⟩
      | not =>
        obtain ⟨z, rfl, rfl⟩ := dz
        refine if_ne (by decide) ⟨_, rfl, rfl, _, rfl, if_ne (by decide) ⟨_, rfl, rfl, _, rfl, if_ne (by decide) ⟨_, rfl, (by show 3 ≤ sizeLine; decide), fun t ht => ?_⟩⟩⟩
        refine ⟨t, _, rfl, .inr (.inl (.inl upd_same)), rfl, rfl, _, rfl, if_in (by decide) ⟨_, rfl, tySt (keepAt ht hS2), _, rfl, _, rfl, Str.ofString "not", p, _, !z, rfl, keepAt ht hp, .inl ⟨rfl, z, rfl, rfl⟩, st, _, _, rfl, rfl, keepAt ht hS2, lz, fin _ _ _ _ upd_same ((bt.fresh ht _).upd _)⟩⟩
      | and =>
        obtain ⟨z, y, rfl, rfl⟩ := dz
        refine if_ne (by decide) ⟨_, rfl, rfl, _, rfl, if_ne (by decide) ⟨_, rfl, rfl, _, rfl, if_ne (by decide) ⟨_, rfl, (by show 3 ≤ sizeLine; decide), fun t ht => ?_⟩⟩⟩
        refine ⟨t, _, rfl, .inr (.inl (.inl upd_same)), rfl, rfl, _, rfl, if_in (by decide) ⟨_, rfl, tySt (keepAt ht hS2), _, rfl, _, rfl, Str.ofString "&", p, _, z && y, rfl, keepAt ht hp, .inr (.inl ⟨rfl, z, y, rfl, rfl⟩), st, _, _, rfl, rfl, keepAt ht hS2, lz, fin _ _ _ _ upd_same ((bt.fresh ht _).upd _)⟩⟩
      | or =>
        obtain ⟨z, y, rfl, rfl⟩ := dz
        refine if_ne (by decide) ⟨_, rfl, rfl, _, rfl, if_ne (by decide) ⟨_, rfl, rfl, _, rfl, if_ne (by decide) ⟨_, rfl, (by show 3 ≤ sizeLine; decide), fun t ht => ?_⟩⟩⟩
        refine ⟨t, _, rfl, .inr (.inl (.inl upd_same)), rfl, rfl, _, rfl, if_in (by decide) ⟨_, rfl, tySt (keepAt ht hS2), _, rfl, _, rfl, Str.ofString "|", p, _, z || y, rfl, keepAt ht hp, .inr (.inr ⟨rfl, z, y, rfl, rfl⟩), st, _, _, rfl, rfl, keepAt ht hS2, lz, fin _ _ _ _ upd_same ((bt.fresh ht _).upd _)⟩⟩
      | cmp o =>
        obtain ⟨z, y, rfl, rfl⟩ := dz
        have n1 : ∀ c ∈ [Str.ofString "number", Str.ofString "name", Str.ofString "negative"], (wCmp o == c) = false := by cases o <;> decide
        refine if_ne (n1 _ (by simp)) ⟨_, rfl, rfl, _, rfl, if_ne (n1 _ (by simp)) ⟨_, rfl, rfl, _, rfl, if_ne (n1 _ (by simp)) ⟨_, rfl, (by show 3 ≤ sizeLine; decide), fun t ht => ?_⟩⟩⟩
        refine ⟨t, _, rfl, .inr (.inl (.inl upd_same)), rfl, rfl, _, rfl, if_out (by show inV (.str (wCmp o)) _ = false; cases o <;> decide) ⟨_, rfl, (by show 3 ≤ sizeLine; decide), fun t2 ht2 => ?_⟩⟩
        refine ⟨t2, _, rfl, .inr (.inl (.inl upd_same)), rfl, rfl, _, rfl, if_in (by show inV (.str (wCmp o)) _ = true; cases o <;> decide) ⟨_, rfl, tySt (keepAt ht2 (keepAt ht hS2)), _, rfl, _, rfl, p, _, _, .int z, rfl, rfl, .inl (.inl (keepAt ht2 (keepAt ht hp))), rfl, _, rfl, p, _, _, .int y, rfl, rfl, .inl (.inl (keepAt ht2 (keepAt ht hp))), rfl, o, z, y, rfl, st, _, _, rfl, rfl, keepAt ht2 (keepAt ht hS2), lz, fin _ _ _ _ upd_same (((bt.fresh ht _).fresh ht2 _).upd _)⟩⟩
      | bin o =>
        obtain ⟨z, y, rfl, rfl⟩ := dz
        have bits : z.natAbs.log2 + y.natAbs.log2 < 1000000 := Nat.lt_of_le_of_lt (Mx.two_bits sm (by exact hm)) wt
        have n1 : ∀ c ∈ [Str.ofString "number", Str.ofString "name", Str.ofString "negative"], (wOp o == c) = false := by cases o <;> decide
        refine if_ne (n1 _ (by simp)) ⟨_, rfl, rfl, _, rfl, if_ne (n1 _ (by simp)) ⟨_, rfl, rfl, _, rfl, if_ne (n1 _ (by simp)) ⟨_, rfl, (by show 3 ≤ sizeLine; decide), fun t ht => ?_⟩⟩⟩
        refine ⟨t, _, rfl, .inr (.inl (.inl upd_same)), rfl, rfl, _, rfl, if_out (by show inV (.str (wOp o)) _ = false; cases o <;> decide) ⟨_, rfl, (by show 3 ≤ sizeLine; decide), fun t2 ht2 => ?_⟩⟩
        refine ⟨t2, _, rfl, .inr (.inl (.inl upd_same)), rfl, rfl, _, rfl, if_out (by show inV (.str (wOp o)) _ = false; cases o <;> decide) ⟨_, rfl, tySt (keepAt ht2 (keepAt ht hS2)), _, rfl, _, rfl, p, _, _, .int z, rfl, rfl, .inl (.inl (keepAt ht2 (keepAt ht hp))), rfl, _, rfl, p, _, _, .int y, rfl, rfl, .inl (.inl (keepAt ht2 (keepAt ht hp))), rfl, o, z, y, rfl, bits, st, _, _, rfl, rfl, keepAt ht2 (keepAt ht hS2), lz, fin _ _ _ _ upd_same (((bt.fresh ht _).fresh ht2 _).upd _)⟩⟩
    · obtain ⟨o3, o4, o5, m, rfl, k, hm, hS⟩ := h
      rw [List.length_map, hal, List.take_of_length_le (Nat.le_refl _), run] at hm
      cases hm
      exact ⟨_, rfl, st, _, _, rvV r, rfl, rfl, .inl (.inl hS), rfl, q _ k⟩
end
end Bd
end
section
set_option Elab.async false
set_option linter.all false
set_option maxRecDepth 100000
set_option maxHeartbeats 4000000
set_option autoImplicit false
namespace Bd
open PySem PySem.Spec PyProof.Rows L2
theorem same_new {H H' : Hp} (k : Same H H') {p : Addr} (hp : H' p = none) (o : HO) : Same H (L2.upd H' p o) := fun b x e => by
  have := k b x e
  rw [upd_ne (fun q => by rw [q, hp] at this; cases this)]; exact this
section
variable {P : Program} {w : World} {K : PySem.W.Frag} {mg : Str → Option Value} {base : Heap} {f : Addr} {fd : FuncData}
/-! ## joined -/
abbrev sJoin : Stmt := top 7
def spJoin : Sp := fun vs H Q _ => ∃ (l : Addr) (step : V) (as : List Addr) (xss : List (List V)), vs = [.ref l, step] ∧ H l = some (.lst (as.map V.ref)) ∧ Tups H as xss ∧ xss.flatten.length ≤ 900 ∧
  ∀ (H' : Hp) (p : Addr), Same H H' → H' p = some (.tup (xss.flatten ++ [step])) → Q (.ref p) H'
theorem scJoin : FnScope ["parts", "step", "steps", "part"] ["parts", "step"] (defScope sJoin) := ⟨rfl, rfl, rfl, by decide +kernel, rfl, by decide +kernel, by decide +kernel⟩
theorem ok_join (F : FnP K "joined" sJoin f fd) : FnOk P w K mg base CX0 1 f fd ["parts", "step"] spJoin := by
  refine F.ok scJoin (fun vs H Q E h => ?_) (fun cdv A outer s H vs Q E hr h => ⟨_, (pss_cons (ps_set (i := 2) scJoin.nd rfl (.inl rfl) (pe_tup pa_nil))
    (pss_cons (ps_for PassesOwn.never rfl (pi_list (pv 0)) (pg_name (i := 3) scJoin.nd rfl (.inl rfl)) (pss_one (ps_set (i := 2) scJoin.nd rfl (.inl rfl) (pe_op op_catA (pv 2) (pv 3)))))
    (pss_one (ps_ret (pe_op op_catA (pv 2) (pe_tup (pa_cons (pv 1) pa_nil))))))), ?_⟩)
  · obtain ⟨l, step, as, xss, rfl, _⟩ := h
    rfl
  · obtain ⟨l, step, as, xss, rfl, hl, tu, hz, q⟩ := h
    have lz : ∀ i, (xss.take i).flatten.length ≤ xss.flatten.length := fun i => by
      conv => rhs; rw [← List.take_append_drop i xss, List.flatten_append, List.length_append]
      omega
    refine ⟨by decide, fun t ht => ?_⟩
    refine ⟨_, rfl, l, rfl, ⟨as.map V.ref, .inl (.inl (same_new (Same.refl H) ht _ _ _ hl))⟩, for_list (K := K) (a := l) (xs := as.map V.ref) (fun i σ H' => ∃ (o : Option V) (p : Addr), σ = [some (.ref l), some step, some (.ref p), o] ∧ Same H H' ∧ H' p = some (.tup (xss.take i).flatten))
      ⟨none, t, rfl, same_new (Same.refl H) ht _, upd_same⟩ (fun i σ H' _ h => by obtain ⟨_, _, _, k, _⟩ := h; exact .inl (.inl (k _ _ hl))) (fun i y σ H' hi h => ?_) (fun σ H' h => ?_)⟩
    · obtain ⟨o, p, rfl, k, hp⟩ := h
      obtain ⟨b, x, rfl, hx, hb⟩ := tu.at_ hi
      have hst : (xss.take (i + 1)).flatten = (xss.take i).flatten ++ x := by rw [List.take_add_one, hx, List.flatten_append]; simp
      have z1 := lz (i + 1)
      have z2 := hst ▸ z1
      rw [List.length_append] at z2
      refine ⟨_, rfl, _, rfl, p, b, _, x, rfl, rfl, .inl (.inl hp), .inl (.inl (k _ _ hb)), Nat.le_of_lt (small1000 (by omega)), fun e => ⟨_, b, rfl, k, ?_⟩, fun _ e => ⟨_, p, rfl, k, ?_⟩, fun _ _ r hr => ⟨_, r, rfl, same_new k hr _, ?_⟩⟩
      · rw [hst, e, List.nil_append]; exact k _ _ hb
      · rw [hst, e, List.append_nil]; exact hp
      · rw [hst]; exact upd_same
    · obtain ⟨o, p, rfl, k, hp⟩ := h
      have hal : as.length = xss.length := tu.length
      rw [List.length_map, hal, List.take_length] at hp
      refine ⟨_, rfl, _, rfl, (by show 1 ≤ sizeLine; decide), fun t2 ht2 => ?_⟩
      refine ⟨p, t2, _, _, rfl, rfl, .inl (.inl (keepAt ht2 hp)), .inl (.inl upd_same), ?_, fun e => q _ t2 (same_new k ht2 _) ?_, fun _ e => absurd e (by simp), fun _ _ r hr => q _ r (same_new (same_new k ht2 _) hr _) upd_same⟩
      · rw [List.length_singleton]; exact Nat.le_of_lt (small1000 (by omega))
      · rw [e]; exact upd_same
/-! ## nothing, number_steps -/
abbrev sNothing : Stmt := top 5
abbrev sNumSt : Stmt := top 6
def spNothing : Sp := fun vs H Q _ => vs = [] ∧ ∀ (H' : Hp) (p b : Addr), Same H H' → H' b = some (.tup [.str "nothing", .non]) → H' p = some (.tup [.ref b]) → Q (.ref p) H'
theorem scNothing : FnScope [] [] (defScope sNothing) := ⟨rfl, rfl, rfl, by decide +kernel, rfl, by decide +kernel, by decide +kernel⟩
theorem ok_nothing (F : FnP K "nothing" sNothing f fd) : FnOk P w K mg base CX0 1 f fd [] spNothing := by
  refine F.ok scNothing (fun vs H Q E h => ?_) (fun cdv A outer s H vs Q E hr h => ⟨_, pss_one (ps_ret (pe_tup (pa_cons (pe_tup (pa_cons pe_str (pa_cons pe_non pa_nil))) pa_nil))), ?_⟩)
  · obtain ⟨rfl, _⟩ := h
    rfl
  · obtain ⟨rfl, q⟩ := h
    refine ⟨(by show 2 ≤ sizeLine; decide), fun b hb => ⟨(by show 1 ≤ sizeLine; decide), fun p hp => q _ p b ?_ ?_ upd_same⟩⟩
    · exact same_new (same_new (Same.refl H) hb _) hp _
    · exact keepAt hp upd_same
end
end Bd
end
section
set_option Elab.async false
set_option linter.all false
set_option maxRecDepth 100000
set_option maxHeartbeats 4000000
set_option autoImplicit false
namespace Bd
open PySem PySem.Spec PyProof.Rows L2
/-- tuples stay -/
def Tk (H H' : Hp) : Prop := ∀ b x, H b = some (.tup x) → H' b = some (.tup x)
theorem Same.tk {H H' : Hp} (k : Same H H') : Tk H H' := fun b x e => k b _ e
theorem But.tk {st : Addr} {H H' : Hp} (k : But st H H') {xs : List V} (e : H st = some (.lst xs)) : Tk H H' := fun b x q => k b _ q (fun z => by rw [z, e] at q; cases q)
theorem Tk.trans {A B C : Hp} (h : Tk A B) (k : Tk B C) : Tk A C := fun b x e => k b x (h b x e)
theorem XsAt.keeps {H H' : Hp} (k : Tk H H') {a : Addr} {s : List Mx.XS} (h : XsAt H a s) : XsAt H' a s := by
  obtain ⟨as, h1, h2⟩ := h
  exact ⟨as, k _ _ h1, h2.keeps k⟩
/-- what a step's detail is -/
def DetAt (H : Hp) : Mx.Det → V → Prop
  | .none, v => v = .non
  | .num n, v => v = .int n
  | .exp e, v => ∃ a, v = .ref a ∧ XsAt H a (Mx.postE e)
  | .cond c, v => ∃ a, v = .ref a ∧ XsAt H a (Mx.postC c)
theorem DetAt.keeps {H H' : Hp} (k : Tk H H') {d : Mx.Det} {v : V} (h : DetAt H d v) : DetAt H' d v := by
  cases d with
  | none => exact h
  | num n => exact h
  | exp e => obtain ⟨a, h1, h2⟩ := h; exact ⟨a, h1, h2.keeps k⟩
  | cond c => obtain ⟨a, h1, h2⟩ := h; exact ⟨a, h1, h2.keeps k⟩
def StepAt (H : Hp) (v : V) (x : Mx.St) : Prop := ∃ b dv, v = .ref b ∧ H b = some (.tup [.str (sB x.w), dv]) ∧ DetAt H x.d dv
theorem StepAt.keeps {H H' : Hp} (k : Tk H H') {v : V} {x : Mx.St} (h : StepAt H v x) : StepAt H' v x := by
  obtain ⟨b, dv, h1, h2, h3⟩ := h
  exact ⟨b, dv, h1, k _ _ h2, h3.keeps k⟩
inductive StepsAt (H : Hp) : List V → List Mx.St → Prop
  | nil : StepsAt H [] []
  | cons {v : V} {x : Mx.St} {vs : List V} {xs : List Mx.St} : StepAt H v x → StepsAt H vs xs → StepsAt H (v :: vs) (x :: xs)
theorem StepsAt.keeps {H H' : Hp} (k : Tk H H') {vs : List V} {xs : List Mx.St} (h : StepsAt H vs xs) : StepsAt H' vs xs := by
  induction h with
  | nil => exact .nil
  | cons h1 _ ih => exact .cons (h1.keeps k) ih
theorem StepsAt.length {H : Hp} {vs : List V} {xs : List Mx.St} (h : StepsAt H vs xs) : vs.length = xs.length := by
  induction h with
  | nil => rfl
  | cons h1 _ ih => rw [List.length_cons, List.length_cons, ih]
theorem StepsAt.app {H : Hp} {vs us : List V} {xs ys : List Mx.St} (h : StepsAt H vs xs) (h' : StepsAt H us ys) : StepsAt H (vs ++ us) (xs ++ ys) := by
  induction h with
  | nil => exact h'
  | cons h1 _ ih => exact .cons h1 ih
theorem StepsAt.take {H : Hp} {vs : List V} {xs : List Mx.St} (h : StepsAt H vs xs) : ∀ n, StepsAt H (vs.take n) (xs.take n) := by
  induction h with
  | nil => intro n; simp; exact .nil
  | cons h1 _ ih =>
    intro n
    cases n with
    | zero => exact .nil
    | succ n => exact .cons h1 (ih n)
theorem StepsAt.drop {H : Hp} {vs : List V} {xs : List Mx.St} (h : StepsAt H vs xs) : ∀ n, StepsAt H (vs.drop n) (xs.drop n) := by
  induction h with
  | nil => intro n; simp; exact .nil
  | cons h1 h2 ih =>
    intro n
    cases n with
    | zero => exact .cons h1 h2
    | succ n => exact ih n
theorem StepsAt.at_ {H : Hp} {vs : List V} {xs : List Mx.St} (h : StepsAt H vs xs) : ∀ {i : Nat} {x : Mx.St}, xs[i]? = some x → ∃ v, vs[i]? = some v ∧ StepAt H v x := by
  induction h with
  | nil => intro i x e; simp at e
  | @cons v y vs xs h1 h2 ih =>
    intro i x e
    cases i with
    | zero => simp at e; subst e; exact ⟨v, rfl, h1⟩
    | succ i => exact ih (by simpa using e)
/-- the agreement at a, as steps -/
def AgAt (H : Hp) (a : Addr) (l : List Mx.St) : Prop := ∃ vs, H a = some (.tup vs) ∧ StepsAt H vs l
theorem AgAt.keeps {H H' : Hp} (k : Tk H H') {a : Addr} {l : List Mx.St} (h : AgAt H a l) : AgAt H' a l := by
  obtain ⟨vs, h1, h2⟩ := h
  exact ⟨vs, k _ _ h1, h2.keeps k⟩
/-- its word stands in the table -/
def Known (x : Mx.St) : Prop := (sB x.w, Mx.parts x.w) ∈ COUNTS
theorem known_post : ∀ a : Co01.Ag, ∀ x ∈ Mx.post a, Known x := by
  have one : ∀ {z : String} {d : Mx.Det}, (sB (Co01.ascii z), Mx.parts (Co01.ascii z)) ∈ COUNTS → ∀ x ∈ [Mx.st z d], Known x := fun h x hx => by
    rw [List.mem_singleton] at hx; subst hx; exact h
  intro a
  induction a with
  | nothing => exact one (by decide +kernel)
  | pay e => exact one (by decide +kernel)
  | both a b iha ihb => exact fun x hx => (List.mem_append.mp hx).elim (fun h => (List.mem_append.mp h).elim (iha x) (ihb x)) (one (by decide +kernel) x)
  | or a b iha ihb => exact fun x hx => (List.mem_append.mp hx).elim (fun h => (List.mem_append.mp h).elim (iha x) (ihb x)) (one (by decide +kernel) x)
  | else_ a b iha ihb => exact fun x hx => (List.mem_append.mp hx).elim (fun h => (List.mem_append.mp h).elim (iha x) (ihb x)) (one (by decide +kernel) x)
  | if_ c a b iha ihb => exact fun x hx => (List.mem_append.mp hx).elim (fun h => (List.mem_append.mp h).elim (iha x) (ihb x)) (one (by decide +kernel) x)
  | at_ k a ih => exact fun x hx => (List.mem_append.mp hx).elim (ih x) (one (by decide +kernel) x)
  | may k a ih => exact fun x hx => (List.mem_append.mp hx).elim (ih x) (one (by decide +kernel) x)
  | give a ih => exact fun x hx => (List.mem_append.mp hx).elim (ih x) (one (by decide +kernel) x)
  | times e a ih => exact fun x hx => (List.mem_append.mp hx).elim (ih x) (one (by decide +kernel) x)
  | halt_ c a ih => exact fun x hx => (List.mem_append.mp hx).elim (ih x) (one (by decide +kernel) x)
section
variable {P : Program} {w : World} {K : PySem.W.Frag} {mg : Str → Option Value} {base : Heap} {f : Addr} {fd : FuncData}
/-! ## part_start -/
abbrev sPart : Stmt := top 9
def spPart : Sp := fun vs H Q _ => ∃ (a : Addr) (pre part suf : List Mx.St) (last : Int), vs = [.ref a, .int last] ∧ AgAt H a (pre ++ part ++ suf) ∧ Mx.Back part 1 0 ∧ (∀ x ∈ part, Known x) ∧ (pre ++ part ++ suf).length ≤ 1000 ∧ last = (pre.length + part.length : Nat) - 1 ∧ Q (.int pre.length) H
theorem scPart : FnScope ["steps", "last", "place", "missing"] ["steps", "last"] (defScope sPart) := ⟨rfl, rfl, rfl, by decide +kernel, rfl, by decide +kernel, by decide +kernel⟩
theorem ok_part (F : FnP K "part_start" sPart f fd) (gC : CountsG w K mg) : FnOk P w K mg base CX0 1 f fd ["steps", "last"] spPart := by
  obtain ⟨dC, mC, hC⟩ := gC
  refine F.ok scPart (fun vs H Q E h => ?_) (fun cdv A outer s H vs Q E hr h => ⟨_, (pss_cons (ps_set (i := 2) scPart.nd rfl (.inl rfl) (pe_op op_add (pv 1) pe_int))
    (pss_cons (ps_set (i := 3) scPart.nd rfl (.inl rfl) pe_int)
    (pss_cons (ps_while PassesOwn.never (pt_cmpR op_gt (pv 3) pe_int (nomark _))
      (pss_cons (ps_aug (i := 2) scPart.nd rfl (.inl rfl) pe_int ip_sub)
      (pss_one (ps_aug (i := 3) scPart.nd rfl (.inl rfl) (pe_op op_sub (pe_ix ix_kdict (pe_glob (v := .ref dC) (by rfl) mC rfl) (pe_ix ix_tup (pe_ix ix_tup (pv 0) (pv 2) (fun _ _ => rfl)) pe_int (fun _ _ => rfl)) (fun _ _ => rfl)) pe_int) ip_add))))
    (pss_one (ps_ret (pv 2)))))), ?_⟩)
  · obtain ⟨a, pre, part, suf, last, rfl, _⟩ := h
    rfl
  · obtain ⟨a, pre, part, suf, last, rfl, ⟨vs, ha, hs⟩, bk, kn, len, rfl, q⟩ := h
    refine ⟨_, rfl, _, _, rfl, rfl, ?_⟩
    refine ⟨fun n σ H' => ∃ (rest suf' : List Mx.St) (m : Nat), σ = [some (.ref a), some (.int ((pre.length + part.length : Nat) - 1)), some (.int (pre.length + rest.length : Nat)), some (.int m)] ∧ H' = H ∧ n = rest.length ∧ Mx.Back rest m 0 ∧ part = rest ++ suf', ⟨_, part, [], 1, ?_, rfl, rfl, bk, (List.append_nil _).symm⟩, ?_⟩
    · show [some (V.ref a), _, some (V.int ((pre.length + part.length : Nat) - 1 + 1)), _] = _
      rw [Int.sub_add_cancel]
      rfl
    · rintro n σ H' ⟨rest, suf', m, rfl, rfl, rfl, b, e⟩
      refine ⟨_, rfl, _, _, rfl, rfl, _, rfl, ?_⟩
      by_cases c : 0 < m
      · rw [decide_eq_true (show (0 : Int) < (m : Int) by omega)]
        refine ⟨_, fun _ _ h => h, ?_⟩
        cases b with
        | nil => omega
        | @snoc l x _ _ h b =>
          have hx : (pre ++ part ++ suf)[pre.length + l.length]? = some x := by
            rw [e, List.append_assoc, List.getElem?_append_right (by omega), Nat.add_sub_cancel_left, List.append_assoc, List.append_assoc, List.getElem?_append_right (by omega), Nat.sub_self]
            rfl
          obtain ⟨v, hv, b0, dv, rfl, hb, _⟩ := hs.at_ hx
          have kx : Known x := kn x (by rw [e]; simp)
          have i1 : ((pre.length + (l ++ [x]).length : Nat) : Int) - 1 = ((pre.length + l.length : Nat) : Int) := by rw [List.length_append, List.length_singleton]; omega
          have i2 : ((m : Int) + (((Mx.parts x.w : Nat) : Int) - 1)) = ((Mx.back x m : Nat) : Int) := by unfold Mx.back; omega
          refine ⟨_, rfl, _, _, rfl, rfl, ?_⟩
          dsimp only [List.set]
          rw [i1]
          refine ⟨_, rfl, _, rfl, _, rfl, a, vs, _, .ref b0, rfl, rfl, .inl (.inl ha), atI_nat hv, b0, _, 0, .str (sB x.w), rfl, rfl, .inl (.inl hb), rfl, dC, sB x.w, .int (Mx.parts x.w : Nat), rfl, rfl, hC _ kx, _, _, rfl, rfl, _, _, rfl, rfl, l.length, by rw [List.length_append, List.length_singleton]; omega, l, [x] ++ suf', Mx.back x m, ?_, rfl, rfl, b, by rw [e, List.append_assoc]⟩
          rw [← i2]
          rfl
      · rw [decide_eq_false (show ¬ (0 : Int) < (m : Int) by omega)]
        cases b with
        | nil => exact ⟨_, rfl, q⟩
        | snoc h b => exact absurd h c
end
end Bd
end
section
set_option Elab.async false
set_option linter.all false
set_option maxRecDepth 100000
set_option maxHeartbeats 4000000
set_option autoImplicit false
namespace Bd
open PySem PySem.Spec PyProof.Rows L2
theorem sl_any {K : PySem.W.Frag} {H : Hp} {Q : VK} {a : Addr} {vs : List V} {lo hi : Option Int} (ha : H a = some (.tup vs)) (q : ∀ H' p, Same H H' → H' p = some (.tup (cutV vs lo hi)) → Q (.ref p) H') : rSlA K (.ref a) lo hi H Q := by
  refine ⟨a, vs, rfl, .inl (.inl ha), fun e => q H a (Same.refl H) ?_, fun _ p hp => q _ p (same_new (Same.refl H) hp _) upd_same⟩
  unfold cutV
  rw [e.1, e.2, List.drop_zero, Nat.sub_zero, List.take_length]
  exact ha
theorem cat_any {K : PySem.W.Frag} {H : Hp} {Q : VK} {a b : Addr} {xs ys : List V} (ha : H a = some (.tup xs)) (hb : H b = some (.tup ys)) (hz : xs.length + ys.length ≤ 1000) (q : ∀ H' p, Same H H' → H' p = some (.tup (xs ++ ys)) → Q (.ref p) H') : rCatA K (.ref a) (.ref b) H Q := by
  refine ⟨a, b, xs, ys, rfl, rfl, .inl (.inl ha), .inl (.inl hb), Nat.le_of_lt (small1000 hz), fun e => q H b (Same.refl H) ?_, fun _ e => q H a (Same.refl H) ?_, fun _ _ p hp => q _ p (same_new (Same.refl H) hp _) upd_same⟩
  · rw [e]; exact hb
  · rw [e, List.append_nil]; exact ha
theorem cutV_mid (xs ys zs : List V) : cutV (xs ++ ys ++ zs) (some (xs.length : Nat)) (some ((xs.length + ys.length : Nat) : Int)) = ys := by
  unfold cutV
  rw [HT.sIx_nat, HT.sIx_nat]
  have h1 : min xs.length (xs ++ ys ++ zs).length = xs.length := Nat.min_eq_left (by simp)
  have h2 : min (xs.length + ys.length) (xs ++ ys ++ zs).length = xs.length + ys.length := Nat.min_eq_left (by simp)
  rw [h1, h2, Nat.add_sub_cancel_left, List.append_assoc, List.drop_left, List.take_left]
theorem cutV_pre (xs ys : List V) : cutV (xs ++ ys) none (some (xs.length : Nat)) = xs := by
  unfold cutV
  rw [HT.sIx_nat, HT.sIx_none]
  have h1 : min xs.length (xs ++ ys).length = xs.length := by simp
  rw [h1, List.drop_zero, Nat.sub_zero, List.take_left]
theorem cutV_suf (xs ys : List V) : cutV (xs ++ ys) (some (xs.length : Nat)) none = ys := by
  unfold cutV
  rw [HT.sIx_nat, HT.sIx_none]
  have h1 : min xs.length (xs ++ ys).length = xs.length := by simp
  rw [h1, List.drop_left, List.length_append, Nat.add_sub_cancel_left, List.take_length]
theorem StepsAt.split {H : Hp} {xs ys : List Mx.St} {vs : List V} (h : StepsAt H vs (xs ++ ys)) : ∃ us ws, vs = us ++ ws ∧ StepsAt H us xs ∧ StepsAt H ws ys := by
  refine ⟨vs.take xs.length, vs.drop xs.length, (List.take_append_drop _ _).symm, ?_, ?_⟩
  · have := h.take xs.length
    rwa [List.take_left] at this
  · have := h.drop xs.length
    rwa [List.drop_left] at this
section
variable {P : Program} {w : World} {K : PySem.W.Frag} {mg : Str → Option Value} {base : Heap} {f : Addr} {fd : FuncData}
/-! ## choice_made -/
abbrev sChoice : Stmt := top 27
def spChoice : Sp := fun vs H Q _ => ∃ (a : Addr) (pre A B suf : List Mx.St) (x : Mx.St) (which : Nat), vs = [.ref a, .int ((pre.length + A.length + B.length : Nat) : Int), .int which] ∧ AgAt H a (pre ++ A ++ B ++ [x] ++ suf) ∧ Mx.Back A 1 0 ∧ Mx.Back B 1 0 ∧
  (∀ x ∈ A, Known x) ∧ (∀ x ∈ B, Known x) ∧ (pre ++ A ++ B ++ [x] ++ suf).length ≤ 1000 ∧ ∀ (H' : Hp) (p : Addr), Same H H' → AgAt H' p (pre ++ (if which = 0 then A else B) ++ suf) → Q (.ref p) H'
theorem scChoice : FnScope ["agreement", "place", "which", "second", "first", "part"] ["agreement", "place", "which"] (defScope sChoice) := ⟨rfl, rfl, rfl, by decide +kernel, rfl, by decide +kernel, by decide +kernel⟩
theorem ok_choice {f1 : Addr} {fd1 : FuncData} (F : FnP K "choice_made" sChoice f fd) (F1 : FnP K "part_start" sPart f1 fd1) (m1 : mg "part_start" = some (.ref f1)) (G1 : FnOk P w K mg base CX0 1 f1 fd1 ["steps", "last"] spPart) :
    FnOk P w K mg base CX0 2 f fd ["agreement", "place", "which"] spChoice := by
  have b1 : Binds K fd1 ["steps", "last"] [] := F1.binds fun _ _ _ _ _ _ us hl => match us, hl with | [_, _], _ => rfl
  refine F.ok scChoice (fun vs H Q E h => ?_) (fun cdv A outer s H vs Q E hr h => ⟨_, (pss_cons (ps_set (i := 3) scChoice.nd rfl (.inl rfl) (pe_call G1 hr rfl m1 F1.kp b1 .nil pass0 (pa_cons (pv 0) (pa_cons (pe_op op_sub (pv 1) pe_int) pa_nil))))
    (pss_cons (ps_set (i := 4) scChoice.nd rfl (.inl rfl) (pe_call G1 hr rfl m1 F1.kp b1 .nil pass0 (pa_cons (pv 0) (pa_cons (pe_op op_sub (pv 3) pe_int) pa_nil))))
    (pss_cons (ps_set (i := 5) scChoice.nd rfl (.inl rfl) (pe_ifExp (pt_cmpR op_eq (pv 2) pe_int (nomark _)) (pe_slice sl_tupA (pv 0) (po_some (pv 4)) (po_some (pv 3))) (pe_slice sl_tupA (pv 0) (po_some (pv 3)) (po_some (pv 1)))))
    (pss_one (ps_ret (pe_op op_catA (pe_op op_catA (pe_slice sl_tupA (pv 0) po_none (po_some (pv 4))) (pv 5)) (pe_slice sl_tupA (pv 0) (po_some (pe_op op_add (pv 1) pe_int)) po_none))))))), ?_⟩)
  · obtain ⟨a, pre, A, B, suf, x, which, rfl, _⟩ := h
    rfl
  · obtain ⟨a, pre, A1, B1, suf, x, which, rfl, ag, bA, bB, kA, kB, len, q⟩ := h
    have lenE : pre.length + A1.length + B1.length + 1 + suf.length ≤ 1000 := by simp at len; omega
    refine ⟨_, rfl, _, rfl, _, _, rfl, rfl, a, pre ++ A1, B1, [x] ++ suf, _, rfl, by simpa [List.append_assoc] using ag, bB, kB, by simp; omega, by rw [List.length_append], ?_⟩
    refine ⟨_, rfl, _, rfl, _, _, rfl, rfl, a, pre, A1, B1 ++ [x] ++ suf, _, rfl, by simpa [List.append_assoc] using ag, bA, kA, by simp; omega, by rw [List.length_append], ?_⟩
    obtain ⟨vs, ha, hs⟩ := ag
    obtain ⟨v4, vS, rfl, h4, hS⟩ := hs.split
    obtain ⟨v3, vX, rfl, h3, hX⟩ := h4.split
    obtain ⟨v2, vB, rfl, h2, hB⟩ := h3.split
    obtain ⟨vP, vA, rfl, hP, hA⟩ := h2.split
    have lP := hP.length
    have lA := hA.length
    have lB := hB.length
    have lX : vX.length = 1 := hX.length
    have lS := hS.length
    have c1 : cutV (vP ++ vA ++ vB ++ vX ++ vS) none (some ((pre.length : Nat) : Int)) = vP := by
      have := cutV_pre vP (vA ++ vB ++ vX ++ vS)
      rw [← lP]; simpa [List.append_assoc] using this
    have c2 : cutV (vP ++ vA ++ vB ++ vX ++ vS) (some ((pre.length : Nat) : Int)) (some (((pre ++ A1).length : Nat) : Int)) = vA := by
      have := cutV_mid vP vA (vB ++ vX ++ vS)
      rw [List.length_append, ← lP, ← lA]; simpa [List.append_assoc] using this
    have c3 : cutV (vP ++ vA ++ vB ++ vX ++ vS) (some (((pre ++ A1).length : Nat) : Int)) (some ((pre.length + A1.length + B1.length : Nat) : Int)) = vB := by
      have := cutV_mid (vP ++ vA) vB (vX ++ vS)
      rw [List.length_append] at this
      rw [List.length_append, ← lP, ← lA, ← lB]; simpa [List.append_assoc] using this
    have c4 : cutV (vP ++ vA ++ vB ++ vX ++ vS) (some (((pre.length + A1.length + B1.length : Nat) : Int) + 1)) none = vS := by
      have := cutV_suf (vP ++ vA ++ vB ++ vX) vS
      have e : ((vP ++ vA ++ vB ++ vX).length : Int) = ((pre.length + A1.length + B1.length : Nat) : Int) + 1 := by
        rw [List.length_append, List.length_append, List.length_append, lP, lA, lB, lX]; rfl
      rw [e] at this
      exact this
    refine ⟨_, rfl, rfl, _, rfl, ?_⟩
    by_cases c : which = 0
    · have t : decide (V.int (which : Int) = V.int 0) = true := by rw [c]; exact decide_eq_true rfl
      rw [t]
      rw [if_pos c] at q
      refine ⟨_, rfl, _, rfl, _, rfl, _, rfl, _, rfl, sl_any ha fun H1 p1 k1 e1 => ?_⟩
      rw [c2] at e1
      refine ⟨_, rfl, _, rfl, _, rfl, sl_any (k1 _ _ ha) fun H2 p2 k2 e2 => ?_⟩
      rw [c1] at e2
      refine ⟨_, rfl, cat_any e2 (k2 _ _ e1) (by omega) fun H3 p3 k3 e3 => ?_⟩
      refine ⟨_, rfl, _, rfl, _, _, rfl, rfl, _, rfl, ?_⟩
      dsimp only [tNoPart]
      refine sl_any (k3 _ _ (k2 _ _ (k1 _ _ ha))) fun H4 p4 k4 e4 => ?_
      rw [c4] at e4
      have k04 := (((k1.trans k2).trans k3).trans k4)
      exact cat_any (k4 _ _ e3) e4 (by rw [List.length_append]; omega) fun H5 p5 k5 e5 => q H5 p5 (k04.trans k5) ⟨_, e5, ((hP.app hA).app hS).keeps (Bd.Same.tk (k04.trans k5))⟩
    · have t : decide (V.int (which : Int) = V.int 0) = false := by
        rw [decide_eq_false_iff_not]
        intro z
        have := V.int.inj z
        omega
      rw [t]
      rw [if_neg c] at q
      refine ⟨_, rfl, _, rfl, _, rfl, _, rfl, _, rfl, sl_any ha fun H1 p1 k1 e1 => ?_⟩
      rw [c3] at e1
      refine ⟨_, rfl, _, rfl, _, rfl, sl_any (k1 _ _ ha) fun H2 p2 k2 e2 => ?_⟩
      rw [c1] at e2
      refine ⟨_, rfl, cat_any e2 (k2 _ _ e1) (by omega) fun H3 p3 k3 e3 => ?_⟩
      refine ⟨_, rfl, _, rfl, _, _, rfl, rfl, _, rfl, ?_⟩
      dsimp only [tNoPart]
      refine sl_any (k3 _ _ (k2 _ _ (k1 _ _ ha))) fun H4 p4 k4 e4 => ?_
      rw [c4] at e4
      have k04 := (((k1.trans k2).trans k3).trans k4)
      exact cat_any (k4 _ _ e3) e4 (by rw [List.length_append]; omega) fun H5 p5 k5 e5 => q H5 p5 (k04.trans k5) ⟨_, e5, ((hP.app hB).app hS).keeps (Bd.Same.tk (k04.trans k5))⟩
end
end Bd
end
section
set_option Elab.async false
set_option linter.all false
set_option maxRecDepth 100000
set_option maxHeartbeats 4000000
set_option autoImplicit false
namespace Bd
open PySem PySem.Spec PyProof.Rows L2
section
variable {P : Program} {w : World} {K : PySem.W.Frag} {mg : Str → Option Value} {base : Heap} {f : Addr} {fd : FuncData}
/-! ## number_steps -/
def spNumSt : Sp := fun vs H Q _ => ∃ z : Int, vs = [.int z] ∧ ∀ (H' : Hp) (p : Addr), Same H H' → XsAt H' p (Mx.postE (Co01.lit z)) → Q (.ref p) H'
theorem scNumSt : FnScope ["number"] ["number"] (defScope sNumSt) := ⟨rfl, rfl, rfl, by decide +kernel, rfl, by decide +kernel, by decide +kernel⟩
theorem ok_numSt (F : FnP K "number_steps" sNumSt f fd) : FnOk P w K mg base CX0 1 f fd ["number"] spNumSt := by
  refine F.ok scNumSt (fun vs H Q E h => ?_) (fun cdv A outer s H vs Q E hr h => ⟨_, (pss_cons (ps_if (pt_cmpR op_lt (pv 0) pe_int (nomark _)) (pss_one (ps_ret (pe_tup (pa_cons (pe_tup (pa_cons pe_str (pa_cons (pe_un un_neg (pv 0)) pa_nil))) (pa_cons (pe_tup (pa_cons pe_str (pa_cons pe_non pa_nil))) pa_nil))))) pss_nil)
    (pss_one (ps_ret (pe_tup (pa_cons (pe_tup (pa_cons pe_str (pa_cons (pv 0) pa_nil))) pa_nil))))), ?_⟩)
  · obtain ⟨z, rfl, _⟩ := h
    rfl
  · obtain ⟨z, rfl, q⟩ := h
    refine ⟨_, rfl, _, _, rfl, rfl, _, rfl, ?_⟩
    by_cases c : z < 0
    · rw [decide_eq_true c]
      have e : Mx.postE (Co01.lit z) = [.num z.natAbs, .neg] := by unfold Co01.lit; rw [if_pos c]; rfl
      rw [e] at q
      refine ⟨_, rfl, z, rfl, (by show 2 ≤ sizeLine; decide), fun b hb => ⟨(by show 2 ≤ sizeLine; decide), fun b2 hb2 => ⟨(by show 2 ≤ sizeLine; decide), fun p hp => q _ p (same_new (same_new (same_new (Same.refl H) hb _) hb2 _) hp _) ⟨[b, b2], upd_same, .cons (keepAt hp (keepAt hb2 ?_)) (.cons (keepAt hp upd_same) .nil)⟩⟩⟩⟩
      rw [upd_same]
      show some (HO.tup [V.str "number", V.int (-z)]) = some (.tup [V.str "number", V.int ((z.natAbs : Nat) : Int)])
      rw [show ((z.natAbs : Nat) : Int) = -z by omega]
    · rw [decide_eq_false c]
      have e : Mx.postE (Co01.lit z) = [.num z.natAbs] := by unfold Co01.lit; rw [if_neg c]; rfl
      rw [e] at q
      refine ⟨_, rfl, (by show 2 ≤ sizeLine; decide), fun b hb => ⟨(by show 1 ≤ sizeLine; decide), fun p hp => q _ p (same_new (same_new (Same.refl H) hb _) hp _) ⟨[b], upd_same, .cons (keepAt hp ?_) .nil⟩⟩⟩
      rw [upd_same]
      show some (HO.tup [V.str "number", V.int z]) = some (.tup [V.str "number", V.int ((z.natAbs : Nat) : Int)])
      rw [show ((z.natAbs : Nat) : Int) = z by omega]
/-! ## exchanged -/
abbrev sExch : Stmt := top 26
def spExch : Sp := fun vs H Q _ => ∃ b : Bool, vs = [.int (if b = true then 1 else 0)] ∧ Q (.int (if b = true then 0 else 1)) H
theorem scExch : FnScope ["side"] ["side"] (defScope sExch) := ⟨rfl, rfl, rfl, by decide +kernel, rfl, by decide +kernel, by decide +kernel⟩
theorem ok_exch (F : FnP K "exchanged" sExch f fd) (g1 : IntG mg "HOLDER" 0) (g2 : IntG mg "OTHER_SIDE" 1) : FnOk P w K mg base CX0 1 f fd ["side"] spExch := by
  refine F.ok scExch (fun vs H Q E h => ?_) (fun cdv A outer s H vs Q E hr h => ⟨_, (pss_one (ps_ret (pe_ifExp (pt_cmpR op_eq (pv 0) (pe_gint g1) (nomark _)) (pe_gint g2) (pe_gint g1)))), ?_⟩)
  · obtain ⟨z, rfl, _⟩ := h
    rfl
  · obtain ⟨b, rfl, q⟩ := h
    refine ⟨_, rfl, rfl, _, rfl, ?_⟩
    cases b with
    | true =>
      have t : decide (V.int (if true = true then 1 else 0) = V.int 0) = false := by
        rw [decide_eq_false_iff_not]; intro z; exact absurd (V.int.inj z) (by decide)
      rw [t]
      exact q
    | false =>
      have t : decide (V.int (if false = true then 1 else 0) = V.int 0) = true := decide_eq_true rfl
      rw [t]
      exact q
end
end Bd
end
section
set_option Elab.async false
set_option linter.all false
set_option maxRecDepth 100000
set_option maxHeartbeats 4000000
set_option autoImplicit false
namespace Bd
open PySem PySem.Spec PyProof.Rows L2
/-! ## an agreement as plain data (for ==) -/
def detXD : Mx.XS → PyData
  | .num n => .int n | .name b => .str (sB b) | _ => .none
def xsD (x : Mx.XS) : PyData := .tuple [.str (wordX x), detXD x]
def detD : Mx.Det → PyData
  | .none => .none
  | .num n => .int n
  | .exp e => .tuple ((Mx.postE e).map xsD)
  | .cond c => .tuple ((Mx.postC c).map xsD)
def stD (x : Mx.St) : PyData := .tuple [.str (sB x.w), detD x.d]
def agD (l : List Mx.St) : PyData := .tuple (l.map stD)
theorem dp_detX {K : PySem.W.Frag} {H : Hp} (x : Mx.XS) : Dp K H (detX x) (detXD x) := by
  cases x <;> first | exact .int _ | exact .str _ | exact .non
theorem dp_all {K : PySem.W.Frag} {H : Hp} {as : List Addr} {s : List Mx.XS} (h : Tups H as (s.map xsTup)) : DpAll K H (as.map V.ref) (s.map xsD) := by
  induction s generalizing as with
  | nil => cases h; exact .nil
  | cons x s ih =>
    cases h with
    | cons e t => exact .cons (.tup (.inl (.inl e)) (.cons (.str _) (.cons (dp_detX x) .nil))) (ih t)
theorem dp_xs {K : PySem.W.Frag} {H : Hp} {a : Addr} {s : List Mx.XS} (h : XsAt H a s) : Dp K H (.ref a) (.tuple (s.map xsD)) := by
  obtain ⟨as, h1, h2⟩ := h
  exact .tup (.inl (.inl h1)) (dp_all h2)
theorem dp_det {K : PySem.W.Frag} {H : Hp} {d : Mx.Det} {v : V} (h : DetAt H d v) : Dp K H v (detD d) := by
  cases d with
  | none => have : v = .non := h; subst this; exact .non
  | num n => have : v = .int n := h; subst this; exact .int _
  | exp e => obtain ⟨a, rfl, h⟩ := h; exact dp_xs h
  | cond c => obtain ⟨a, rfl, h⟩ := h; exact dp_xs h
theorem dp_steps {K : PySem.W.Frag} {H : Hp} {vs : List V} {l : List Mx.St} (h : StepsAt H vs l) : DpAll K H vs (l.map stD) := by
  induction h with
  | nil => exact .nil
  | cons h1 _ ih =>
    obtain ⟨b, dv, rfl, e, hd⟩ := h1
    exact .cons (.tup (.inl (.inl e)) (.cons (.str _) (.cons (dp_det hd) .nil))) ih
theorem dp_ag {K : PySem.W.Frag} {H : Hp} {a : Addr} {l : List Mx.St} (h : AgAt H a l) : Dp K H (.ref a) (agD l) := by
  obtain ⟨vs, h1, h2⟩ := h
  exact .tup (.inl (.inl h1)) (dp_steps h2)
/-- names are plain text -/
def okX : Mx.XS → Prop
  | .name b => PyData.strOk (sB b) = true
  | _ => True
def okD : Mx.Det → Prop
  | .exp e => ∀ x ∈ Mx.postE e, okX x
  | .cond c => ∀ x ∈ Mx.postC c, okX x
  | _ => True
def okS (x : Mx.St) : Prop := PyData.strOk (sB x.w) = true ∧ okD x.d
theorem layXsOne (x : Mx.XS) (h : okX x) : (xsD x).canLay0 = true ∧ (xsD x).depth ≤ 1 := by
  have h1 : PyData.strOk (wordX x) = true := by
    cases x with
    | bin o => cases o <;> decide +kernel
    | cmp o => cases o <;> decide +kernel
    | num n => show PyData.strOk (Str.ofString "number") = true; decide +kernel
    | name n => show PyData.strOk (Str.ofString "name") = true; decide +kernel
    | neg => decide +kernel
    | not => decide +kernel
    | and => decide +kernel
    | or => decide +kernel
  have h2 : (detXD x).canLay0 = true ∧ (detXD x).depth = 0 := by
    cases x with
    | name b => exact ⟨by rw [detXD, PyData.canLay0]; exact h, by simp [detXD, PyData.depth]⟩
    | _ => exact ⟨by simp [detXD, PyData.canLay0], by simp [detXD, PyData.depth]⟩
  constructor
  · simp [xsD, PyData.canLay0, PyData.canLayAll0, h1, h2.1]
  · simp [xsD, PyData.depth, PyData.depthAll, h2.2]
theorem layXsAll : ∀ s : List Mx.XS, (∀ x ∈ s, okX x) → PyData.canLayAll0 (s.map xsD) = true ∧ PyData.depthAll (s.map xsD) ≤ 1
  | [], _ => by simp [PyData.depthAll, PyData.canLayAll0]
  | x :: s, h => by
    obtain ⟨h1, h2⟩ := layXsAll s fun y hy => h y (List.mem_cons_of_mem _ hy)
    obtain ⟨h3, h4⟩ := layXsOne x (h x (List.mem_cons_self ..))
    rw [List.map_cons]
    constructor
    · rw [PyData.canLayAll0, h1, h3]; rfl
    · rw [PyData.depthAll]
      exact Nat.max_le.mpr ⟨h4, h2⟩
theorem lay_det (d : Mx.Det) (h : okD d) : (detD d).canLay0 = true ∧ (detD d).depth ≤ 2 := by
  cases d with
  | none => simp [detD, PyData.depth, PyData.canLay0]
  | num n => simp [detD, PyData.depth, PyData.canLay0]
  | exp e => have h := layXsAll (Mx.postE e) h; exact ⟨by rw [detD, PyData.canLay0]; exact h.1, by rw [detD, PyData.depth]; omega⟩
  | cond e => have h := layXsAll (Mx.postC e) h; exact ⟨by rw [detD, PyData.canLay0]; exact h.1, by rw [detD, PyData.depth]; omega⟩
theorem lay_steps : ∀ l : List Mx.St, (∀ x ∈ l, okS x) → PyData.canLayAll0 (l.map stD) = true ∧ PyData.depthAll (l.map stD) ≤ 3
  | [], _ => by simp [PyData.depthAll, PyData.canLayAll0]
  | x :: l, h => by
    obtain ⟨h1, h2⟩ := lay_steps l fun y hy => h y (List.mem_cons_of_mem _ hy)
    obtain ⟨h5, h6⟩ := h x (List.mem_cons_self ..)
    obtain ⟨h3, h4⟩ := lay_det x.d h6
    rw [List.map_cons]
    constructor
    · simp [PyData.canLayAll0, PyData.canLay0, h1, stD, h3, h5]
    · rw [PyData.depthAll, stD]
      refine Nat.max_le.mpr ⟨?_, h2⟩
      simp [PyData.depth, PyData.depthAll]
      omega
theorem shaped_ag (l : List Mx.St) (h : ∀ x ∈ l, okS x) : SeqAt.shaped (agD l) = true := by
  obtain ⟨h1, h2⟩ := lay_steps l h
  unfold SeqAt.shaped
  rw [agD, PyData.canLay0, h1, PyData.depth, Bool.true_and, decide_eq_true_eq]
  omega
abbrev NOTH : List Mx.St := [Mx.st "nothing"]
theorem eqv_nothing (l : List Mx.St) : PyData.eqv (agD l) (agD NOTH) = decide (l = NOTH) := by
  match l with
  | [] => simp [agD, PyData.eqv, PyData.eqvAll, NOTH]
  | [⟨u, d⟩] =>
    have e : PyData.eqv (agD [⟨u, d⟩]) (agD NOTH) = ((sB u == sB (Co01.ascii "nothing")) && PyData.eqv (detD d) .none) := by
      simp [agD, PyData.eqv, PyData.eqvAll, NOTH, stD, detD]
    rw [e, Bool.eq_iff_iff, Bool.and_eq_true, beq_iff_eq, sB_inj, decide_eq_true_eq]
    constructor
    · rintro ⟨rfl, h⟩
      cases d with
      | none => rfl
      | _ => simp [detD, PyData.eqv] at h
    · intro h
      have h := List.cons.inj h
      have h := Mx.St.mk.inj h.1
      exact ⟨h.1, by rw [h.2]; rfl⟩
  | x :: y :: r => simp [agD, PyData.eqv, PyData.eqvAll, NOTH]
end Bd
end
section
set_option Elab.async false
set_option linter.all false
set_option maxRecDepth 100000
set_option maxHeartbeats 4000000
set_option autoImplicit false
namespace Bd
open PySem PySem.Spec PyProof.Rows L2
theorem noth_at {H : Hp} {p b : Addr} (hb : H b = some (.tup [.str "nothing", .non])) (hp : H p = some (.tup [.ref b])) : AgAt H p NOTH := by
  refine ⟨_, hp, .cons ⟨b, .non, rfl, ?_, rfl⟩ .nil⟩
  rw [hb]
  show some (HO.tup [V.str (Str.ofString "nothing"), V.non]) = some (.tup [.str (sB (Co01.ascii "nothing")), .non])
  rw [show Str.ofString "nothing" = sB (Co01.ascii "nothing") by decide +kernel]
theorem ok_noth : ∀ x ∈ NOTH, okS x := fun x hx => by
  rw [List.mem_singleton] at hx
  subst hx
  exact ⟨by decide +kernel, trivial⟩
section
variable {P : Program} {w : World} {K : PySem.W.Frag} {mg : Str → Option Value} {base : Heap} {f : Addr} {fd : FuncData}
/-! ## left_within -/
abbrev sWithin : Stmt := top 23
def withinOf (l : List Mx.St) (x : Mx.St) : List Mx.St := if l = NOTH then l else l ++ [x]
def spWithin : Sp := fun vs H Q _ => ∃ (a : Addr) (l : List Mx.St) (step : V) (x : Mx.St), vs = [.ref a, step] ∧ AgAt H a l ∧ (∀ x ∈ l, okS x) ∧ l.length ≤ 900 ∧ StepAt H step x ∧ ∀ (H' : Hp) (p : Addr), Same H H' → AgAt H' p (withinOf l x) → Q (.ref p) H'
theorem scWithin : FnScope ["left", "step"] ["left", "step"] (defScope sWithin) := ⟨rfl, rfl, rfl, by decide +kernel, rfl, by decide +kernel, by decide +kernel⟩
theorem ok_within {f1 f2 : Addr} {fd1 fd2 : FuncData} (F : FnP K "left_within" sWithin f fd)
    (F1 : FnP K "nothing" sNothing f1 fd1) (m1 : mg "nothing" = some (.ref f1)) (G1 : FnOk P w K mg base CX0 1 f1 fd1 [] spNothing)
    (F2 : FnP K "joined" sJoin f2 fd2) (m2 : mg "joined" = some (.ref f2)) (G2 : FnOk P w K mg base CX0 1 f2 fd2 ["parts", "step"] spJoin) :
    FnOk P w K mg base CX0 2 f fd ["left", "step"] spWithin := by
  have b1 : Binds K fd1 [] [] := F1.binds fun _ _ _ _ _ _ us hl => match us, hl with | [], _ => rfl
  have b2 : Binds K fd2 ["parts", "step"] [] := F2.binds fun _ _ _ _ _ _ us hl => match us, hl with | [_, _], _ => rfl
  refine F.ok scWithin (fun vs H Q E h => ?_) (fun cdv A outer s H vs Q E hr h => ⟨_, (pss_cons (ps_if (pt_cmpR (op_eqD hr.units) (pv 0) (pe_call0 G1 hr rfl m1 F1.kp b1 .nil pass0) (nomark _)) (pss_one (ps_ret (pv 0))) pss_nil)
    (pss_one (ps_ret (pe_call G2 hr rfl m2 F2.kp b2 .nil pass0 (pa_cons (pe_lst (pa_cons (pv 0) pa_nil)) (pa_cons (pv 1) pa_nil)))))), ?_⟩)
  · obtain ⟨a, l, step, x, rfl, _⟩ := h
    rfl
  · obtain ⟨a, l, step, x, rfl, ag, ok, len, hst, q⟩ := h
    refine ⟨_, rfl, rfl, fun H1 p b k1 hb hp => ?_⟩
    have ag1 : AgAt H1 a l := ag.keeps (Bd.Same.tk k1)
    refine ⟨_, _, dp_ag ag1, dp_ag (noth_at hb hp), shaped_ag l ok, shaped_ag NOTH ok_noth, _, rfl, ?_⟩
    rw [eqv_nothing]
    by_cases c : l = NOTH
    · rw [decide_eq_true c]
      rw [withinOf, if_pos c] at q
      exact ⟨_, rfl, q H1 a k1 ag1⟩
    · rw [decide_eq_false c]
      rw [withinOf, if_neg c] at q
      obtain ⟨vs, h1, h2⟩ := ag1
      refine ⟨_, rfl, (by show 1 ≤ sizeLine; decide), fun t ht => ⟨_, rfl, t, step, [a], [vs], rfl, upd_same, .cons (keepAt ht h1) .nil, by simp; rw [h2.length]; exact len, fun H2 r k2 e2 => ?_⟩⟩
      have k3 : Same H1 H2 := (same_new (Same.refl H1) ht _).trans k2
      refine q H2 r (k1.trans k3) ⟨_, e2, ?_⟩
      have e : [vs].flatten = vs := by simp
      rw [e]
      exact (h2.keeps (Bd.Same.tk k3)).app (.cons (hst.keeps (Bd.Same.tk (k1.trans k3))) .nil)
end
end Bd
end
section
set_option Elab.async false
set_option linter.all false
set_option maxRecDepth 100000
set_option maxHeartbeats 4000000
set_option autoImplicit false
namespace Bd
open PySem PySem.Spec PyProof.Rows L2
section
variable {P : Program} {w : World} {K : PySem.W.Frag} {mg : Str → Option Value} {base : Heap} {f : Addr} {fd : FuncData}
/-! ## both_left -/
abbrev sBoth : Stmt := top 22
def bothOf (l m : List Mx.St) : List Mx.St := if l = NOTH then m else if m = NOTH then l else l ++ m ++ [Mx.st "and"]
def spBoth : Sp := fun vs H Q _ => ∃ (a b : Addr) (l m : List Mx.St), vs = [.ref a, .ref b] ∧ AgAt H a l ∧ AgAt H b m ∧ (∀ x ∈ l, okS x) ∧ (∀ x ∈ m, okS x) ∧ l.length + m.length ≤ 900 ∧ ∀ (H' : Hp) (p : Addr), Same H H' → AgAt H' p (bothOf l m) → Q (.ref p) H'
theorem scBoth : FnScope ["first", "second"] ["first", "second"] (defScope sBoth) := ⟨rfl, rfl, rfl, by decide +kernel, rfl, by decide +kernel, by decide +kernel⟩
theorem ok_both {f1 f2 : Addr} {fd1 fd2 : FuncData} (F : FnP K "both_left" sBoth f fd)
    (F1 : FnP K "nothing" sNothing f1 fd1) (m1 : mg "nothing" = some (.ref f1)) (G1 : FnOk P w K mg base CX0 1 f1 fd1 [] spNothing)
    (F2 : FnP K "joined" sJoin f2 fd2) (m2 : mg "joined" = some (.ref f2)) (G2 : FnOk P w K mg base CX0 1 f2 fd2 ["parts", "step"] spJoin) :
    FnOk P w K mg base CX0 2 f fd ["first", "second"] spBoth := by
  have b1 : Binds K fd1 [] [] := F1.binds fun _ _ _ _ _ _ us hl => match us, hl with | [], _ => rfl
  have b2 : Binds K fd2 ["parts", "step"] [] := F2.binds fun _ _ _ _ _ _ us hl => match us, hl with | [_, _], _ => rfl
  refine F.ok scBoth (fun vs H Q E h => ?_) (fun cdv A outer s H vs Q E hr h => ⟨_, (pss_cons (ps_if (pt_cmpR (op_eqD hr.units) (pv 0) (pe_call0 G1 hr rfl m1 F1.kp b1 .nil pass0) (nomark _)) (pss_one (ps_ret (pv 1))) pss_nil)
    (pss_cons (ps_if (pt_cmpR (op_eqD hr.units) (pv 1) (pe_call0 G1 hr rfl m1 F1.kp b1 .nil pass0) (nomark _)) (pss_one (ps_ret (pv 0))) pss_nil)
    (pss_one (ps_ret (pe_call G2 hr rfl m2 F2.kp b2 .nil pass0 (pa_cons (pe_lst (pa_cons (pv 0) (pa_cons (pv 1) pa_nil))) (pa_cons (pe_tup (pa_cons pe_str (pa_cons pe_non pa_nil))) pa_nil))))))), ?_⟩)
  · obtain ⟨a, b, l, m, rfl, _⟩ := h
    rfl
  · obtain ⟨a, b, l, m, rfl, ag, bg, ok, ok2, len, q⟩ := h
    refine ⟨_, rfl, rfl, fun H1 p c k1 hc hp => ?_⟩
    have ag1 : AgAt H1 a l := ag.keeps (Bd.Same.tk k1)
    have bg1 : AgAt H1 b m := bg.keeps (Bd.Same.tk k1)
    refine ⟨_, _, dp_ag ag1, dp_ag (noth_at hc hp), shaped_ag l ok, shaped_ag NOTH ok_noth, _, rfl, ?_⟩
    rw [eqv_nothing]
    by_cases c1 : l = NOTH
    · rw [decide_eq_true c1]
      rw [bothOf, if_pos c1] at q
      exact ⟨_, rfl, q H1 b k1 bg1⟩
    · rw [decide_eq_false c1]
      rw [bothOf, if_neg c1] at q
      refine ⟨_, rfl, rfl, fun H2 p2 c2 k2 hc2 hp2 => ?_⟩
      have ag2 : AgAt H2 a l := ag1.keeps (Bd.Same.tk k2)
      have bg2 : AgAt H2 b m := bg1.keeps (Bd.Same.tk k2)
      refine ⟨_, _, dp_ag bg2, dp_ag (noth_at hc2 hp2), shaped_ag m ok2, shaped_ag NOTH ok_noth, _, rfl, ?_⟩
      rw [eqv_nothing]
      by_cases d1 : m = NOTH
      · rw [decide_eq_true d1]
        rw [if_pos d1] at q
        exact ⟨_, rfl, q H2 a (k1.trans k2) ag2⟩
      · rw [decide_eq_false d1]
        rw [if_neg d1] at q
        obtain ⟨vs, h1, h2⟩ := ag2
        obtain ⟨us, h3, h4⟩ := bg2
        refine ⟨_, rfl, _, rfl, (by show 2 ≤ sizeLine; decide), fun t ht => ⟨(by show 2 ≤ sizeLine; decide), fun t2 ht2 => ⟨t, .ref t2, [a, b], [vs, us], rfl, keepAt ht2 upd_same, .cons (keepAt ht2 (keepAt ht h1)) (.cons (keepAt ht2 (keepAt ht h3)) .nil), by simp; rw [h2.length, h4.length]; exact len, fun H3 r k3 e3 => ?_⟩⟩⟩
        have k4 : Same H2 H3 := (same_new (same_new (Same.refl H2) ht _) ht2 _).trans k3
        refine q H3 r ((k1.trans k2).trans k4) ⟨_, e3, ?_⟩
        have e : [vs, us].flatten = vs ++ us := by simp
        rw [e]
        refine ((h2.keeps (Bd.Same.tk k4)).app (h4.keeps (Bd.Same.tk k4))).app (.cons ⟨t2, .non, rfl, ?_, rfl⟩ .nil)
        have := k3 t2 _ upd_same
        rw [this]
        show some (HO.tup [V.str (Str.ofString "and"), V.non]) = some (.tup [.str (sB (Co01.ascii "and")), .non])
        rw [show Str.ofString "and" = sB (Co01.ascii "and") by decide +kernel]
end
end Bd
end
section
set_option Elab.async false
set_option linter.all false
set_option maxRecDepth 100000
set_option maxHeartbeats 4000000
set_option autoImplicit false
namespace Bd
open PySem PySem.Spec PyProof.Rows L2
/-- what the top has written of the class Outcome -/
structure OutTxt (K : PySem.W.Frag) (C : Addr) : Prop where
  cl : Cls K C
  nW : NoAttr K C "whole"
  nL : NoAttr K C "left"
  nP : NoAttr K C "paid"
/-- an outcome at o: its parts -/
def OutAt (C : Addr) (H : Hp) (o w l : Addr) (p : Int) : Prop := ∃ dx, H o = some (.ins C dx [("whole", .ref w), ("left", .ref l), ("paid", .int p)])
theorem OutAt.keeps {C : Addr} {H H' : Hp} (k : Same H H') {o w l : Addr} {p : Int} (h : OutAt C H o w l p) : OutAt C H' o w l p := by
  obtain ⟨dx, h⟩ := h
  exact ⟨dx, k _ _ h⟩
/-- a pair: what is left, what is paid -/
def PairAt (H : Hp) (t : Addr) (m : List Mx.St) (p : Int) : Prop := ∃ l, H t = some (.tup [.ref l, .int p]) ∧ AgAt H l m
section
variable {P : Program} {w : World} {K : PySem.W.Frag} {mg : Str → Option Value} {base : Heap} {f : Addr} {fd : FuncData}
/-! ## times_outcome -/
abbrev sTimes : Stmt := top 21
def timesX (z : Int) : Mx.St := Mx.st "times" (.exp (Co01.lit z))
def spTimes (C : Addr) : Sp := fun vs H Q _ => ∃ (z : Int) (o wh l : Addr) (p : Int) (m : List Mx.St), vs = [.int z, .ref o] ∧ OutAt C H o wh l p ∧ AgAt H l m ∧ (∀ x ∈ m, okS x) ∧ m.length ≤ 900 ∧ z.natAbs.log2 + p.natAbs.log2 < 1000000 ∧
  ∀ (H' : Hp) (t : Addr), Same H H' → PairAt H' t (if z = 0 then NOTH else withinOf m (timesX z)) (z * p) → Q (.ref t) H'
theorem scTimes : FnScope ["factor", "part"] ["factor", "part"] (defScope sTimes) := ⟨rfl, rfl, rfl, by decide +kernel, rfl, by decide +kernel, by decide +kernel⟩
theorem ok_times {C f1 f2 f3 : Addr} {fd1 fd2 fd3 : FuncData} (F : FnP K "times_outcome" sTimes f fd) (T : OutTxt K C)
    (F1 : FnP K "nothing" sNothing f1 fd1) (m1 : mg "nothing" = some (.ref f1)) (G1 : FnOk P w K mg base CX0 1 f1 fd1 [] spNothing)
    (F2 : FnP K "left_within" sWithin f2 fd2) (m2 : mg "left_within" = some (.ref f2)) (G2 : FnOk P w K mg base CX0 2 f2 fd2 ["left", "step"] spWithin)
    (F3 : FnP K "number_steps" sNumSt f3 fd3) (m3 : mg "number_steps" = some (.ref f3)) (G3 : FnOk P w K mg base CX0 1 f3 fd3 ["number"] spNumSt) :
    FnOk P w K mg base CX0 3 f fd ["factor", "part"] (spTimes C) := by
  have b1 : Binds K fd1 [] [] := F1.binds fun _ _ _ _ _ _ us hl => match us, hl with | [], _ => rfl
  have b2 : Binds K fd2 ["left", "step"] [] := F2.binds fun _ _ _ _ _ _ us hl => match us, hl with | [_, _], _ => rfl
  have b3 : Binds K fd3 ["number"] [] := F3.binds fun _ _ _ _ _ _ us hl => match us, hl with | [_], _ => rfl
  refine F.ok scTimes (fun vs H Q E h => ?_) (fun cdv A outer s H vs Q E hr h => ⟨_, (pss_cons (ps_if (pt_cmpR op_eq (pv 0) pe_int (nomark _)) (pss_one (ps_ret (pe_tup (pa_cons (pe_call0 (G1.mono (by decide)) hr rfl m1 F1.kp b1 .nil pass0) (pa_cons pe_int pa_nil))))) pss_nil)
    (pss_one (ps_ret (pe_tup (pa_cons (pe_call G2 hr rfl m2 F2.kp b2 .nil pass0 (pa_cons (pe_fld (pv 1) rfl) (pa_cons (pe_tup (pa_cons pe_str (pa_cons (pe_call (G3.mono (by decide)) hr rfl m3 F3.kp b3 .nil pass0 (pa_cons (pv 0) pa_nil)) pa_nil))) pa_nil))) (pa_cons (pe_op op_mulW (pv 0) (pe_fld (pv 1) rfl)) pa_nil)))))), ?_⟩)
  · obtain ⟨z, o, wh, l, p, m, rfl, _⟩ := h
    rfl
  · obtain ⟨z, o, wh, l, p, m, rfl, ho, ag, ok, len, bits, q⟩ := h
    refine ⟨_, rfl, rfl, _, rfl, ?_⟩
    by_cases c : z = 0
    · have t : decide (V.int z = V.int 0) = true := by rw [c]; exact decide_eq_true rfl
      rw [t]
      refine ⟨rfl, fun H1 r b k1 hb hr1 => ⟨(by show 2 ≤ sizeLine; decide), fun t ht => q _ t (same_new k1 ht _) ?_⟩⟩
      rw [if_pos c]
      refine ⟨r, ?_, (noth_at hb hr1).keeps (Bd.Same.tk (same_new (Same.refl H1) ht _))⟩
      rw [upd_same, c, Int.zero_mul]
    · have t : decide (V.int z = V.int 0) = false := by
        rw [decide_eq_false_iff_not]; intro h; exact c (V.int.inj h)
      rw [t]
      rw [if_neg c] at q
      obtain ⟨dx, ho⟩ := ho
      refine ⟨_, rfl, o, C, dx, _, _, rfl, ho, T.cl, T.nL, rfl, _, rfl, z, rfl, fun H1 n k1 hn => ?_⟩
      refine ⟨(by show 2 ≤ sizeLine; decide), fun b hb => ?_⟩
      have k2 : Same H (upd H1 b (.tup [.str "times", .ref n])) := same_new k1 hb _
      refine ⟨l, m, .ref b, timesX z, rfl, ag.keeps (Bd.Same.tk k2), ok, len, ⟨b, .ref n, rfl, ?_, n, rfl, hn.keeps (Bd.Same.tk (same_new (Same.refl H1) hb _))⟩, fun H3 r k3 hr3 => ?_⟩
      · rw [upd_same]
        show some (HO.tup [V.str (Str.ofString "times"), V.ref n]) = some (.tup [.str (sB (Co01.ascii "times")), .ref n])
        rw [show Str.ofString "times" = sB (Co01.ascii "times") by decide +kernel]
      · have k4 := k2.trans k3
        refine ⟨_, rfl, _, rfl, o, C, dx, _, _, rfl, k4 _ _ ho, T.cl, T.nP, rfl, _, _, rfl, rfl, bits, (by show 2 ≤ sizeLine; decide), fun t ht => q _ t (same_new k4 ht _) ⟨r, upd_same, hr3.keeps (Bd.Same.tk (same_new (Same.refl H3) ht _))⟩⟩
end
end Bd
end
section
set_option Elab.async false
set_option linter.all false
set_option maxRecDepth 100000
set_option maxHeartbeats 4000000
set_option autoImplicit false
namespace Bd
open PySem PySem.Spec PyProof.Rows L2
theorem post_noth (a : Co01.Ag) : Mx.post a = NOTH ↔ a = .nothing := by
  constructor
  · intro h
    have last : ∀ (l : List Mx.St) (z : String) (d : Mx.Det), Co01.ascii z ≠ Co01.ascii "nothing" → l ++ [Mx.st z d] ≠ NOTH := fun l z d hz q => by
      have := congrArg List.getLast? q
      simp at this
      exact hz this.1
    cases a with
    | nothing => rfl
    | pay e => exact absurd h (last [] "pay" _ (by decide))
    | both a b => exact absurd h (last _ "and" _ (by decide))
    | or a b => exact absurd h (last _ "or" _ (by decide))
    | else_ a b => exact absurd h (last _ "else" _ (by decide))
    | at_ k a => exact absurd h (last _ "at" _ (by decide))
    | may k a => exact absurd h (last _ "may" _ (by decide))
    | if_ c a b => exact absurd h (last _ "if" _ (by decide))
    | give a => exact absurd h (last _ "give" _ (by decide))
    | times e a => exact absurd h (last _ "times" _ (by decide))
    | halt_ c a => exact absurd h (last _ "stop" _ (by decide))
  · rintro rfl; rfl
theorem post_both (a b : Co01.Ag) : Mx.post (Co01.bothOf a b) = bothOf (Mx.post a) (Mx.post b) := by
  unfold bothOf
  by_cases ha : a = .nothing
  · subst ha
    rw [if_pos ((post_noth _).mpr rfl)]
    rfl
  · rw [if_neg (fun q => ha ((post_noth _).mp q))]
    by_cases hb : b = .nothing
    · subst hb
      rw [if_pos ((post_noth _).mpr rfl)]
      cases a <;> first | exact absurd rfl ha | rfl
    · rw [if_neg (fun q => hb ((post_noth _).mp q))]
      cases a <;> first | exact absurd rfl ha | (cases b <;> first | exact absurd rfl hb | rfl)
theorem post_give (a : Co01.Ag) : Mx.post (Co01.giveOf a) = withinOf (Mx.post a) (Mx.st "give") := by
  unfold withinOf
  by_cases ha : a = .nothing
  · subst ha; rw [if_pos ((post_noth _).mpr rfl)]; rfl
  · rw [if_neg (fun q => ha ((post_noth _).mp q))]
    cases a <;> first | exact absurd rfl ha | rfl
theorem post_stop (c : Co01.Cond) (a : Co01.Ag) : Mx.post (Co01.stopOf c a) = withinOf (Mx.post a) (Mx.st "stop" (.cond c)) := by
  unfold withinOf
  by_cases ha : a = .nothing
  · subst ha; rw [if_pos ((post_noth _).mpr rfl)]; rfl
  · rw [if_neg (fun q => ha ((post_noth _).mp q))]
    cases a <;> first | exact absurd rfl ha | rfl
theorem post_times {z : Int} (hz : z ≠ 0) (a : Co01.Ag) : Mx.post (Co01.timesOf z a) = withinOf (Mx.post a) (timesX z) := by
  unfold withinOf
  by_cases ha : a = .nothing
  · subst ha; rw [if_pos ((post_noth _).mpr rfl)]; rfl
  · rw [if_neg (fun q => ha ((post_noth _).mp q))]
    cases a <;> first | exact absurd rfl ha | (simp only [Co01.timesOf, if_neg hz]; rfl)
/-- an agreement, what stands in it, its own step -/
inductive Shape : Co01.Ag → List Co01.Ag → Mx.St → Prop
  | nothing : Shape .nothing [] (Mx.st "nothing")
  | pay (e : Co01.Exp) : Shape (.pay e) [] (Mx.st "pay" (.exp e))
  | both (a b : Co01.Ag) : Shape (.both a b) [a, b] (Mx.st "and")
  | or (a b : Co01.Ag) : Shape (.or a b) [a, b] (Mx.st "or")
  | else_ (a b : Co01.Ag) : Shape (.else_ a b) [a, b] (Mx.st "else")
  | at_ (k : Nat) (a : Co01.Ag) : Shape (.at_ k a) [a] (Mx.st "at" (.num k))
  | may (k : Nat) (a : Co01.Ag) : Shape (.may k a) [a] (Mx.st "may" (.num k))
  | if_ (c : Co01.Cond) (a b : Co01.Ag) : Shape (.if_ c a b) [a, b] (Mx.st "if" (.cond c))
  | give (a : Co01.Ag) : Shape (.give a) [a] (Mx.st "give")
  | times (e : Co01.Exp) (a : Co01.Ag) : Shape (.times e a) [a] (Mx.st "times" (.exp e))
  | halt_ (c : Co01.Cond) (a : Co01.Ag) : Shape (.halt_ c a) [a] (Mx.st "stop" (.cond c))
theorem Shape.post {a : Co01.Ag} {ts : List Co01.Ag} {x : Mx.St} (h : Shape a ts x) : Mx.post a = (ts.map Mx.post).flatten ++ [x] := by
  cases h <;> simp [Mx.post]
theorem SeenAt.keeps {H H' : Hp} (k : Same H H') {d : Addr} {v : Co01.Seen} {ns : List Co01.Bytes} (h : SeenAt H d v ns) : SeenAt H' d v ns := by
  obtain ⟨kvs, h1, h2⟩ := h
  exact ⟨kvs, k _ _ h1, h2⟩
/-- what a step's detail asks of what is observed -/
def Asks (H : Hp) (d : Addr) (v : Co01.Seen) : Mx.Det → Prop
  | .exp e => SeenAt H d v (nmsX (Mx.postE e)) ∧ Mx.wtS (Mx.postE e) < 1000000 ∧ (Mx.postE e).length ≤ 1000
  | .cond c => SeenAt H d v (nmsX (Mx.postC c)) ∧ Mx.wtS (Mx.postC c) < 1000000 ∧ (Mx.postC c).length ≤ 1000
  | _ => True
/-- the outcomes at os of the agreements ts on a day -/
inductive Outs (C : Addr) (H : Hp) (t : Nat) (v : Co01.Seen) : List Addr → List Co01.Ag → Prop
  | nil : Outs C H t v [] []
  | cons {o w l : Addr} {a : Co01.Ag} {os : List Addr} {ts : List Co01.Ag} : OutAt C H o w l (Co01.run t v a).2 → AgAt H w (Mx.post a) → AgAt H l (Mx.post (Co01.run t v a).1) → Outs C H t v os ts → Outs C H t v (o :: os) (a :: ts)
section
variable {P : Program} {w : World} {K : PySem.W.Frag} {mg : Str → Option Value} {base : Heap} {f : Addr} {fd : FuncData}
/-! ## step_outcome -/
abbrev sStepO : Stmt := top 20
/-- sizes of an outcome: of what is left, of what is paid, of a factor -/
def Fit (t : Nat) (v : Co01.Seen) (a : Co01.Ag) : Prop := (∀ x ∈ Mx.post (Co01.run t v a).1, okS x) ∧ (Mx.post (Co01.run t v a).1).length ≤ 400
def spStepO (C : Addr) : Sp := fun vs H Q _ => ∃ (sv : V) (ps wh d : Addr) (t : Nat) (v : Co01.Seen) (a : Co01.Ag) (ts : List Co01.Ag) (x : Mx.St) (os : List Addr), vs = [sv, .ref ps, .ref wh, .int t, .ref d] ∧ Shape a ts x ∧ StepAt H sv x ∧ H ps = some (.lst (os.map V.ref)) ∧ Outs C H t v os ts ∧
  AgAt H wh (Mx.post a) ∧ Asks H d v x.d ∧ Mx.Small v ∧ (∀ b ∈ ts, Fit t v b) ∧ (∀ e b, a = .times e b → (Co01.ev v e).natAbs.log2 + (Co01.run t v b).2.natAbs.log2 < 1000000) ∧
  ∀ (H' : Hp) (r : Addr), Same H H' → PairAt H' r (Mx.post (Co01.run t v a).1) (Co01.run t v a).2 → Q (.ref r) H'
theorem scStepO : FnScope ["step", "parts", "whole", "day", "seen", "word", "detail", "followed"] ["step", "parts", "whole", "day", "seen"] (defScope sStepO) := ⟨rfl, rfl, rfl, by decide +kernel, rfl, by decide +kernel, by decide +kernel⟩
theorem ok_stepO {C f1 f2 f3 f4 f5 : Addr} {fd1 fd2 fd3 fd4 fd5 : FuncData} (F : FnP K "step_outcome" sStepO f fd) (T : OutTxt K C)
    (F1 : FnP K "nothing" sNothing f1 fd1) (m1 : mg "nothing" = some (.ref f1)) (G1 : FnOk P w K mg base CX0 1 f1 fd1 [] spNothing)
    (F2 : FnP K "left_within" sWithin f2 fd2) (m2 : mg "left_within" = some (.ref f2)) (G2 : FnOk P w K mg base CX0 2 f2 fd2 ["left", "step"] spWithin)
    (F3 : FnP K "reckoned" sReck f3 fd3) (m3 : mg "reckoned" = some (.ref f3)) (G3 : FnOk P w K mg base CX0 2 f3 fd3 ["steps", "seen"] spReck)
    (F4 : FnP K "both_left" sBoth f4 fd4) (m4 : mg "both_left" = some (.ref f4)) (G4 : FnOk P w K mg base CX0 2 f4 fd4 ["first", "second"] spBoth)
    (F5 : FnP K "times_outcome" sTimes f5 fd5) (m5 : mg "times_outcome" = some (.ref f5)) (G5 : FnOk P w K mg base CX0 3 f5 fd5 ["factor", "part"] (spTimes C)) :
    FnOk P w K mg base CX0 4 f fd ["step", "parts", "whole", "day", "seen"] (spStepO C) := by
  have b1 : Binds K fd1 [] [] := F1.binds fun _ _ _ _ _ _ us hl => match us, hl with | [], _ => rfl
  have b2 : Binds K fd2 ["left", "step"] [] := F2.binds fun _ _ _ _ _ _ us hl => match us, hl with | [_, _], _ => rfl
  have b3 : Binds K fd3 ["steps", "seen"] [] := F3.binds fun _ _ _ _ _ _ us hl => match us, hl with | [_, _], _ => rfl
  have b4 : Binds K fd4 ["first", "second"] [] := F4.binds fun _ _ _ _ _ _ us hl => match us, hl with | [_, _], _ => rfl
  have b5 : Binds K fd5 ["factor", "part"] [] := F5.binds fun _ _ _ _ _ _ us hl => match us, hl with | [_, _], _ => rfl
  refine F.ok scStepO (fun vs H Q E h => ?_) (fun cdv A outer s H vs Q E hr h => ⟨_, (pss_cons (ps_asg (pv 0) (pg_tup rfl (pgs_cons (pg_name (i := 5) scStepO.nd rfl (.inl rfl)) (pgs_cons (pg_name (i := 6) scStepO.nd rfl (.inl rfl)) pgs_nil))))
    (pss_cons (ps_if (pt_cmpR op_eq (pv 5) pe_str (nomark _)) (pss_one (ps_ret (pe_tup (pa_cons (pe_call0 (G1.mono (by decide)) hr rfl m1 F1.kp b1 .nil pass0) (pa_cons (pe_call (G3.mono (by decide)) hr rfl m3 F3.kp b3 .nil pass0 (pa_cons (pv 6) (pa_cons (pv 4) pa_nil))) pa_nil))))) pss_nil)
    (pss_cons (ps_if (pt_cmpR op_eq (pv 5) pe_str (nomark _)) (pss_one (ps_ret (pe_tup (pa_cons (pe_call (G4.mono (by decide)) hr rfl m4 F4.kp b4 .nil pass0 (pa_cons (pe_fld (pe_ix ix_list (pv 1) pe_int (fun _ _ => rfl)) rfl) (pa_cons (pe_fld (pe_ix ix_list (pv 1) pe_int (fun _ _ => rfl)) rfl) pa_nil))) (pa_cons (pe_op op_add (pe_fld (pe_ix ix_list (pv 1) pe_int (fun _ _ => rfl)) rfl) (pe_fld (pe_ix ix_list (pv 1) pe_int (fun _ _ => rfl)) rfl)) pa_nil))))) pss_nil)
    (pss_cons (ps_if (PW.pt (pw_and (pt_cmpR op_eq (pv 5) pe_str (nomark _)) (pw_and1 (pt_cmpR op_le (pv 6) (pv 3) (nomark _))))) (pss_one (ps_ret (pe_tup (pa_cons (pe_fld (pe_ix ix_list (pv 1) pe_int (fun _ _ => rfl)) rfl) (pa_cons (pe_fld (pe_ix ix_list (pv 1) pe_int (fun _ _ => rfl)) rfl) pa_nil))))) pss_nil)
    (pss_cons (ps_if (PW.pt (pw_and (pt_cmpR op_eq (pv 5) pe_str (nomark _)) (pw_and1 (pt_cmpR op_lt (pv 6) (pv 3) (nomark _))))) (pss_one (ps_ret (pe_tup (pa_cons (pe_call0 (G1.mono (by decide)) hr rfl m1 F1.kp b1 .nil pass0) (pa_cons pe_int pa_nil))))) pss_nil)
    (pss_cons (ps_if (pt_cmpR op_eq (pv 5) pe_str (nomark _)) (pss_cons (ps_set (i := 7) scStepO.nd rfl (.inl rfl) (pe_ifExp (pt_val (pe_call (G3.mono (by decide)) hr rfl m3 F3.kp b3 .nil pass0 (pa_cons (pv 6) (pa_cons (pv 4) pa_nil)))) (pe_ix ix_list (pv 1) pe_int (fun _ _ => rfl)) (pe_ix ix_list (pv 1) pe_int (fun _ _ => rfl))))
        (pss_one (ps_ret (pe_tup (pa_cons (pe_fld (pv 7) rfl) (pa_cons (pe_fld (pv 7) rfl) pa_nil)))))) pss_nil)
    (pss_cons (ps_if (pt_cmpR op_eq (pv 5) pe_str (nomark _)) (pss_one (ps_ret (pe_tup (pa_cons (pe_call (G2.mono (by decide)) hr rfl m2 F2.kp b2 .nil pass0 (pa_cons (pe_fld (pe_ix ix_list (pv 1) pe_int (fun _ _ => rfl)) rfl) (pa_cons (pv 0) pa_nil))) (pa_cons (pe_un un_neg (pe_fld (pe_ix ix_list (pv 1) pe_int (fun _ _ => rfl)) rfl)) pa_nil))))) pss_nil)
    (pss_cons (ps_if (pt_cmpR op_eq (pv 5) pe_str (nomark _)) (pss_one (ps_ret (pe_call (G5.mono (by decide)) hr rfl m5 F5.kp b5 .nil pass0 (pa_cons (pe_call (G3.mono (by decide)) hr rfl m3 F3.kp b3 .nil pass0 (pa_cons (pv 6) (pa_cons (pv 4) pa_nil))) (pa_cons (pe_ix ix_list (pv 1) pe_int (fun _ _ => rfl)) pa_nil))))) pss_nil)
    (pss_cons (ps_if (pt_cmpR op_eq (pv 5) pe_str (nomark _)) (pss_cons (ps_if (pt_val (pe_call (G3.mono (by decide)) hr rfl m3 F3.kp b3 .nil pass0 (pa_cons (pv 6) (pa_cons (pv 4) pa_nil)))) (pss_one (ps_ret (pe_tup (pa_cons (pe_call0 (G1.mono (by decide)) hr rfl m1 F1.kp b1 .nil pass0) (pa_cons pe_int pa_nil))))) pss_nil)
        (pss_one (ps_ret (pe_tup (pa_cons (pe_call (G2.mono (by decide)) hr rfl m2 F2.kp b2 .nil pass0 (pa_cons (pe_fld (pe_ix ix_list (pv 1) pe_int (fun _ _ => rfl)) rfl) (pa_cons (pv 0) pa_nil))) (pa_cons (pe_fld (pe_ix ix_list (pv 1) pe_int (fun _ _ => rfl)) rfl) pa_nil)))))) pss_nil)
    (pss_one (ps_ret (pe_tup (pa_cons (pv 2) (pa_cons pe_int pa_nil)))))))))))))), ?_⟩)
  · obtain ⟨sv, ps, wh, d, t, v, a, ts, x, os, rfl, _⟩ := h
    rfl
  · obtain ⟨sv, ps, wh, d, t, v, a, ts, x, os, rfl, sh, ⟨b, dv, rfl, hb, hdv⟩, hps, ho, hwh, ask, sm, fit, bits, q⟩ := h
    refine ⟨_, rfl, b, _, rfl, .inl (.inl hb), rfl, _, _, rfl, _, _, rfl, rfl, ?_⟩
    refine ⟨_, rfl, rfl, _, rfl, ?_⟩
    cases sh with
    | nothing => exact if_ne (by dsimp only [Mx.st]; decide +kernel) ⟨_, rfl, rfl, _, rfl, if_ne (by dsimp only [Mx.st]; decide +kernel) ⟨_, rfl, rfl, _, rfl, if_ne (by dsimp only [Mx.st]; decide +kernel) ⟨_, rfl, rfl, _, rfl, if_ne (by dsimp only [Mx.st]; decide +kernel) ⟨_, rfl, rfl, _, rfl, if_ne (by dsimp only [Mx.st]; decide +kernel) ⟨_, rfl, rfl, _, rfl, if_ne (by dsimp only [Mx.st]; decide +kernel) ⟨_, rfl, rfl, _, rfl, if_ne (by dsimp only [Mx.st]; decide +kernel) ⟨_, rfl, rfl, _, rfl, if_ne (by dsimp only [Mx.st]; decide +kernel) (⟨_, rfl, (by show 2 ≤ sizeLine; decide), fun r hr => q _ r (same_new (Same.refl H) hr _) ⟨wh, upd_same, hwh.keeps (Bd.Same.tk (same_new (Same.refl H) hr _))⟩⟩)⟩⟩⟩⟩⟩⟩⟩
    | or a1 a2 => exact if_ne (by dsimp only [Mx.st]; decide +kernel) ⟨_, rfl, rfl, _, rfl, if_ne (by dsimp only [Mx.st]; decide +kernel) ⟨_, rfl, rfl, _, rfl, if_ne (by dsimp only [Mx.st]; decide +kernel) ⟨_, rfl, rfl, _, rfl, if_ne (by dsimp only [Mx.st]; decide +kernel) ⟨_, rfl, rfl, _, rfl, if_ne (by dsimp only [Mx.st]; decide +kernel) ⟨_, rfl, rfl, _, rfl, if_ne (by dsimp only [Mx.st]; decide +kernel) ⟨_, rfl, rfl, _, rfl, if_ne (by dsimp only [Mx.st]; decide +kernel) ⟨_, rfl, rfl, _, rfl, if_ne (by dsimp only [Mx.st]; decide +kernel) (⟨_, rfl, (by show 2 ≤ sizeLine; decide), fun r hr => q _ r (same_new (Same.refl H) hr _) ⟨wh, upd_same, hwh.keeps (Bd.Same.tk (same_new (Same.refl H) hr _))⟩⟩)⟩⟩⟩⟩⟩⟩⟩
    | else_ a1 a2 => exact if_ne (by dsimp only [Mx.st]; decide +kernel) ⟨_, rfl, rfl, _, rfl, if_ne (by dsimp only [Mx.st]; decide +kernel) ⟨_, rfl, rfl, _, rfl, if_ne (by dsimp only [Mx.st]; decide +kernel) ⟨_, rfl, rfl, _, rfl, if_ne (by dsimp only [Mx.st]; decide +kernel) ⟨_, rfl, rfl, _, rfl, if_ne (by dsimp only [Mx.st]; decide +kernel) ⟨_, rfl, rfl, _, rfl, if_ne (by dsimp only [Mx.st]; decide +kernel) ⟨_, rfl, rfl, _, rfl, if_ne (by dsimp only [Mx.st]; decide +kernel) ⟨_, rfl, rfl, _, rfl, if_ne (by dsimp only [Mx.st]; decide +kernel) (⟨_, rfl, (by show 2 ≤ sizeLine; decide), fun r hr => q _ r (same_new (Same.refl H) hr _) ⟨wh, upd_same, hwh.keeps (Bd.Same.tk (same_new (Same.refl H) hr _))⟩⟩)⟩⟩⟩⟩⟩⟩⟩
    | pay e =>
      obtain ⟨ae, rfl, hx⟩ := hdv
      obtain ⟨se, wt, ln⟩ := ask
      refine if_eq (by dsimp only [Mx.st]; decide +kernel) ⟨rfl, fun H1 r b0 k1 hb0 hr0 => ⟨_, rfl, _, rfl, ae, d, Mx.postE e, v, .int (Co01.ev v e), rfl, hx.keeps (Bd.Same.tk k1), se.keeps k1, sm, wt, ln, Mx.rsteps_postE v e [], fun H2 k2 => ⟨(by show 2 ≤ sizeLine; decide), fun r2 hr2 => ?_⟩⟩⟩
      have k3 : Same H1 (L2.upd H2 r2 (.tup [.ref r, .int (Co01.ev v e)])) := same_new k2 hr2 _
      exact q _ r2 (k1.trans k3) ⟨r, upd_same, (noth_at hb0 hr0).keeps (Bd.Same.tk k3)⟩
    | both a1 a2 =>
      cases ho with
      | @cons o1 w1 l1 _ _ _ h1 h2 h3 h4 => cases h4 with
        | @cons o2 w2 l2 _ _ _ i1 i2 i3 i4 =>
          cases i4
          obtain ⟨d1, h1⟩ := h1
          obtain ⟨d2, i1⟩ := i1
          obtain ⟨ok1, ln1⟩ := fit a1 (by simp)
          obtain ⟨ok2, ln2⟩ := fit a2 (by simp)
          refine if_ne (by dsimp only [Mx.st]; decide +kernel) ⟨_, rfl, rfl, _, rfl, if_eq (by dsimp only [Mx.st]; decide +kernel) ⟨_, rfl, ps, _, _, .ref o1, rfl, rfl, .inl (.inl hps), rfl, o1, C, d1, _, _, rfl, h1, T.cl, T.nL, rfl, _, rfl, ps, _, _, .ref o2, rfl, rfl, .inl (.inl hps), rfl, o2, C, d2, _, _, rfl, i1, T.cl, T.nL, rfl, l1, l2, _, _, rfl, h3, i3, ok1, ok2, by omega, fun H1 r k1 hr1 => ⟨_, rfl, ps, _, _, .ref o1, rfl, rfl, .inl (.inl (k1 _ _ hps)), rfl, o1, C, d1, _, _, rfl, k1 _ _ h1, T.cl, T.nP, rfl, _, rfl, ps, _, _, .ref o2, rfl, rfl, .inl (.inl (k1 _ _ hps)), rfl, o2, C, d2, _, _, rfl, k1 _ _ i1, T.cl, T.nP, rfl, _, _, rfl, rfl, (by show 2 ≤ sizeLine; decide), fun r2 hr2 => ?_⟩⟩⟩
          rw [← post_both] at hr1
          exact q _ r2 (same_new k1 hr2 _) ⟨r, upd_same, hr1.keeps (Bd.Same.tk (same_new (Same.refl H1) hr2 _))⟩
    | at_ k a1 =>
      have hdv : dv = .int k := hdv
      subst hdv
      cases ho with
      | @cons o1 w1 l1 _ _ _ h1 h2 h3 h4 =>
        cases h4
        obtain ⟨d1, h1⟩ := h1
        refine if_ne (by dsimp only [Mx.st]; decide +kernel) ⟨_, rfl, rfl, _, rfl, if_ne (by dsimp only [Mx.st]; decide +kernel) ⟨_, rfl, rfl, _, rfl, if_eq (by dsimp only [Mx.st]; decide +kernel) ⟨_, rfl, _, rfl, _, _, rfl, rfl, _, rfl, ?_⟩⟩⟩
        rw [Co01.run] at q
        by_cases c : k ≤ t
        · rw [decide_eq_true (show (k : Int) ≤ (t : Int) by omega)]
          rw [if_pos c] at q
          exact ⟨_, rfl, ps, _, _, .ref o1, rfl, rfl, .inl (.inl hps), rfl, o1, C, d1, _, _, rfl, h1, T.cl, T.nL, rfl, _, rfl, ps, _, _, .ref o1, rfl, rfl, .inl (.inl hps), rfl, o1, C, d1, _, _, rfl, h1, T.cl, T.nP, rfl, (by show 2 ≤ sizeLine; decide), fun r2 hr2 => q _ r2 (same_new (Same.refl H) hr2 _) ⟨l1, upd_same, h3.keeps (Bd.Same.tk (same_new (Same.refl H) hr2 _))⟩⟩
        · rw [decide_eq_false (show ¬ (k : Int) ≤ (t : Int) by omega)]
          rw [if_neg c] at q
          exact ⟨_, rfl, rfl, _, rfl, if_ne (by dsimp only [Mx.st]; decide +kernel) ⟨_, rfl, rfl, _, rfl, if_ne (by dsimp only [Mx.st]; decide +kernel) ⟨_, rfl, rfl, _, rfl, if_ne (by dsimp only [Mx.st]; decide +kernel) ⟨_, rfl, rfl, _, rfl, if_ne (by dsimp only [Mx.st]; decide +kernel) ⟨_, rfl, rfl, _, rfl, if_ne (by dsimp only [Mx.st]; decide +kernel) (⟨_, rfl, (by show 2 ≤ sizeLine; decide), fun r hr => q _ r (same_new (Same.refl H) hr _) ⟨wh, upd_same, hwh.keeps (Bd.Same.tk (same_new (Same.refl H) hr _))⟩⟩)⟩⟩⟩⟩⟩
    | may k a1 =>
      have hdv : dv = .int k := hdv
      subst hdv
      refine if_ne (by dsimp only [Mx.st]; decide +kernel) ⟨_, rfl, rfl, _, rfl, if_ne (by dsimp only [Mx.st]; decide +kernel) ⟨_, rfl, rfl, _, rfl, if_ne (by dsimp only [Mx.st]; decide +kernel) ⟨_, rfl, rfl, _, rfl, if_eq (by dsimp only [Mx.st]; decide +kernel) ⟨_, rfl, _, rfl, _, _, rfl, rfl, _, rfl, ?_⟩⟩⟩⟩
      rw [Co01.run] at q
      by_cases c : k < t
      · rw [decide_eq_true (show (k : Int) < (t : Int) by omega)]
        rw [if_pos c] at q
        exact ⟨rfl, fun H1 r b0 k1 hb0 hr0 => ⟨(by show 2 ≤ sizeLine; decide), fun r2 hr2 => q _ r2 (same_new k1 hr2 _) ⟨r, upd_same, (noth_at hb0 hr0).keeps (Bd.Same.tk (same_new (Same.refl H1) hr2 _))⟩⟩⟩
      · rw [decide_eq_false (show ¬ (k : Int) < (t : Int) by omega)]
        rw [if_neg c] at q
        exact ⟨_, rfl, rfl, _, rfl, if_ne (by dsimp only [Mx.st]; decide +kernel) ⟨_, rfl, rfl, _, rfl, if_ne (by dsimp only [Mx.st]; decide +kernel) ⟨_, rfl, rfl, _, rfl, if_ne (by dsimp only [Mx.st]; decide +kernel) ⟨_, rfl, rfl, _, rfl, if_ne (by dsimp only [Mx.st]; decide +kernel) (⟨_, rfl, (by show 2 ≤ sizeLine; decide), fun r hr => q _ r (same_new (Same.refl H) hr _) ⟨wh, upd_same, hwh.keeps (Bd.Same.tk (same_new (Same.refl H) hr _))⟩⟩)⟩⟩⟩⟩
    | give a1 =>
      cases ho with
      | @cons o1 w1 l1 _ _ _ h1 h2 h3 h4 =>
        cases h4
        obtain ⟨d1, h1⟩ := h1
        obtain ⟨ok1, ln1⟩ := fit a1 (by simp)
        refine if_ne (by dsimp only [Mx.st]; decide +kernel) ⟨_, rfl, rfl, _, rfl, if_ne (by dsimp only [Mx.st]; decide +kernel) ⟨_, rfl, rfl, _, rfl, if_ne (by dsimp only [Mx.st]; decide +kernel) ⟨_, rfl, rfl, _, rfl, if_ne (by dsimp only [Mx.st]; decide +kernel) ⟨_, rfl, rfl, _, rfl, if_ne (by dsimp only [Mx.st]; decide +kernel) ⟨_, rfl, rfl, _, rfl, if_eq (by dsimp only [Mx.st]; decide +kernel) ⟨_, rfl, ps, _, _, .ref o1, rfl, rfl, .inl (.inl hps), rfl, o1, C, d1, _, _, rfl, h1, T.cl, T.nL, rfl, _, rfl, l1, _, .ref b, Mx.st "give", rfl, h3, ok1, by omega, ⟨b, dv, rfl, hb, hdv⟩, fun H1 r k1 hr1 => ⟨_, rfl, ps, _, _, .ref o1, rfl, rfl, .inl (.inl (k1 _ _ hps)), rfl, o1, C, d1, _, _, rfl, k1 _ _ h1, T.cl, T.nP, rfl, _, rfl, (by show 2 ≤ sizeLine; decide), fun r2 hr2 => ?_⟩⟩⟩⟩⟩⟩⟩
        rw [← post_give] at hr1
        exact q _ r2 (same_new k1 hr2 _) ⟨r, upd_same, hr1.keeps (Bd.Same.tk (same_new (Same.refl H1) hr2 _))⟩
    | if_ c a1 a2 =>
      obtain ⟨ae, rfl, hx⟩ := hdv
      obtain ⟨se, wt, ln⟩ := ask
      cases ho with
      | @cons o1 w1 l1 _ _ _ h1 h2 h3 h4 => cases h4 with
        | @cons o2 w2 l2 _ _ _ i1 i2 i3 i4 =>
          cases i4
          obtain ⟨d1, h1⟩ := h1
          obtain ⟨d2, i1⟩ := i1
          refine if_ne (by dsimp only [Mx.st]; decide +kernel) ⟨_, rfl, rfl, _, rfl, if_ne (by dsimp only [Mx.st]; decide +kernel) ⟨_, rfl, rfl, _, rfl, if_ne (by dsimp only [Mx.st]; decide +kernel) ⟨_, rfl, rfl, _, rfl, if_ne (by dsimp only [Mx.st]; decide +kernel) ⟨_, rfl, rfl, _, rfl, if_eq (by dsimp only [Mx.st]; decide +kernel) ⟨_, rfl, _, rfl, ae, d, Mx.postC c, v, .bl (Co01.holds v c), rfl, hx, se, sm, wt, ln, Mx.rsteps_postC v c [], fun H1 k1 => ⟨_, rfl, ?_⟩⟩⟩⟩⟩⟩
          rw [Co01.run] at q
          by_cases hc : Co01.holds v c = true
          · rw [hc]
            rw [if_pos hc] at q
            exact ⟨_, rfl, ps, _, _, .ref o1, rfl, rfl, .inl (.inl (k1 _ _ hps)), rfl, _, rfl, o1, C, d1, _, _, rfl, k1 _ _ h1, T.cl, T.nL, rfl, _, rfl, o1, C, d1, _, _, rfl, k1 _ _ h1, T.cl, T.nP, rfl, (by show 2 ≤ sizeLine; decide), fun r2 hr2 => q _ r2 (same_new k1 hr2 _) ⟨l1, upd_same, h3.keeps (Bd.Same.tk (same_new k1 hr2 _))⟩⟩
          · rw [Bool.eq_false_iff.mpr hc]
            rw [if_neg hc] at q
            exact ⟨_, rfl, ps, _, _, .ref o2, rfl, rfl, .inl (.inl (k1 _ _ hps)), rfl, _, rfl, o2, C, d2, _, _, rfl, k1 _ _ i1, T.cl, T.nL, rfl, _, rfl, o2, C, d2, _, _, rfl, k1 _ _ i1, T.cl, T.nP, rfl, (by show 2 ≤ sizeLine; decide), fun r2 hr2 => q _ r2 (same_new k1 hr2 _) ⟨l2, upd_same, i3.keeps (Bd.Same.tk (same_new k1 hr2 _))⟩⟩
    | times e a1 =>
      obtain ⟨ae, rfl, hx⟩ := hdv
      obtain ⟨se, wt, ln⟩ := ask
      cases ho with
      | @cons o1 w1 l1 _ _ _ h1 h2 h3 h4 =>
        cases h4
        obtain ⟨ok1, ln1⟩ := fit a1 (by simp)
        refine if_ne (by dsimp only [Mx.st]; decide +kernel) ⟨_, rfl, rfl, _, rfl, if_ne (by dsimp only [Mx.st]; decide +kernel) ⟨_, rfl, rfl, _, rfl, if_ne (by dsimp only [Mx.st]; decide +kernel) ⟨_, rfl, rfl, _, rfl, if_ne (by dsimp only [Mx.st]; decide +kernel) ⟨_, rfl, rfl, _, rfl, if_ne (by dsimp only [Mx.st]; decide +kernel) ⟨_, rfl, rfl, _, rfl, if_ne (by dsimp only [Mx.st]; decide +kernel) ⟨_, rfl, rfl, _, rfl, if_eq (by dsimp only [Mx.st]; decide +kernel) ⟨_, rfl, _, rfl, ae, d, Mx.postE e, v, .int (Co01.ev v e), rfl, hx, se, sm, wt, ln, Mx.rsteps_postE v e [], fun H1 k1 => ⟨_, rfl, ps, _, _, .ref o1, rfl, rfl, .inl (.inl (k1 _ _ hps)), rfl, Co01.ev v e, o1, w1, l1, _, _, rfl, h1.keeps k1, h3.keeps (Bd.Same.tk k1), ok1, by omega, bits e a1 rfl, fun H2 r k2 pr => q H2 r (k1.trans k2) ?_⟩⟩⟩⟩⟩⟩⟩⟩
        rw [Co01.run]
        by_cases hz : Co01.ev v e = 0
        · rw [if_pos hz] at pr ⊢
          rw [hz, Int.zero_mul] at pr
          exact pr
        · rw [if_neg hz] at pr ⊢
          rw [← post_times hz] at pr
          exact pr
    | halt_ c a1 =>
      obtain ⟨ae, rfl, hx⟩ := hdv
      obtain ⟨se, wt, ln⟩ := ask
      cases ho with
      | @cons o1 w1 l1 _ _ _ h1 h2 h3 h4 =>
        cases h4
        obtain ⟨d1, h1⟩ := h1
        obtain ⟨ok1, ln1⟩ := fit a1 (by simp)
        refine if_ne (by dsimp only [Mx.st]; decide +kernel) ⟨_, rfl, rfl, _, rfl, if_ne (by dsimp only [Mx.st]; decide +kernel) ⟨_, rfl, rfl, _, rfl, if_ne (by dsimp only [Mx.st]; decide +kernel) ⟨_, rfl, rfl, _, rfl, if_ne (by dsimp only [Mx.st]; decide +kernel) ⟨_, rfl, rfl, _, rfl, if_ne (by dsimp only [Mx.st]; decide +kernel) ⟨_, rfl, rfl, _, rfl, if_ne (by dsimp only [Mx.st]; decide +kernel) ⟨_, rfl, rfl, _, rfl, if_ne (by dsimp only [Mx.st]; decide +kernel) ⟨_, rfl, rfl, _, rfl, if_eq (by dsimp only [Mx.st]; decide +kernel) ⟨_, rfl, _, rfl, ae, d, Mx.postC c, v, .bl (Co01.holds v c), rfl, hx, se, sm, wt, ln, Mx.rsteps_postC v c [], fun H1 k1 => ⟨_, rfl, ?_⟩⟩⟩⟩⟩⟩⟩⟩⟩
        rw [Co01.run] at q
        by_cases hc : Co01.holds v c = true
        · rw [hc]
          rw [if_pos hc] at q
          exact ⟨rfl, fun H2 r b0 k2 hb0 hr0 => ⟨(by show 2 ≤ sizeLine; decide), fun r2 hr2 => q _ r2 (same_new (k1.trans k2) hr2 _) ⟨r, upd_same, (noth_at hb0 hr0).keeps (Bd.Same.tk (same_new (Same.refl H2) hr2 _))⟩⟩⟩
        · rw [Bool.eq_false_iff.mpr hc]
          rw [if_neg hc] at q
          refine ⟨_, rfl, ps, _, _, .ref o1, rfl, rfl, .inl (.inl (k1 _ _ hps)), rfl, o1, C, d1, _, _, rfl, k1 _ _ h1, T.cl, T.nL, rfl, _, rfl, l1, _, .ref b, Mx.st "stop" (.cond c), rfl, h3.keeps (Bd.Same.tk k1), ok1, by omega, ⟨b, .ref ae, rfl, k1 _ _ hb, ae, rfl, hx.keeps (Bd.Same.tk k1)⟩, fun H2 r k2 hr1 => ⟨_, rfl, ps, _, _, .ref o1, rfl, rfl, .inl (.inl (k2 _ _ (k1 _ _ hps))), rfl, o1, C, d1, _, _, rfl, k2 _ _ (k1 _ _ h1), T.cl, T.nP, rfl, (by show 2 ≤ sizeLine; decide), fun r2 hr2 => ?_⟩⟩
          rw [← post_stop] at hr1
          exact q _ r2 (same_new (k1.trans k2) hr2 _) ⟨r, upd_same, hr1.keeps (Bd.Same.tk (same_new (Same.refl H2) hr2 _))⟩
end
end Bd
end
section
set_option Elab.async false
set_option linter.all false
set_option maxRecDepth 100000
set_option maxHeartbeats 4000000
set_option autoImplicit false
namespace Bd
open PySem PySem.Spec PyProof.Rows L2
section
variable {P : Program} {w : World} {K : PySem.W.Frag} {mg : Str → Option Value} {base : Heap} {f : Addr} {fd : FuncData}
/-! ## Outcome.__init__ -/
abbrev sOutI : Stmt := inClass (top 18) 0
def spOutI (C : Addr) : Sp := fun vs H Q _ => ∃ (o dx wh l : Addr) (p : Int), vs = [.ref o, .ref wh, .ref l, .int p] ∧ H o = some (.ins C dx []) ∧
  ∀ H' : Hp, OutAt C H' o wh l p → (∀ b x, H b = some x → b ≠ o → H' b = some x) → Q .non H'
theorem scOutI : FnScope ["self", "whole", "left", "paid"] ["self", "whole", "left", "paid"] (defScope sOutI) := ⟨rfl, rfl, rfl, by decide +kernel, rfl, by decide +kernel, by decide +kernel⟩
theorem ok_outI {C : Addr} (F : L2.Fun K "__init__" "Outcome.__init__" sOutI f fd) (T : OutTxt K C) : FnOk P w K mg base CX0 1 f fd ["self", "whole", "left", "paid"] (spOutI C) := by
  refine F.ok scOutI (fun vs H Q E h => ?_) (fun cdv A outer s H vs Q E hr h => ⟨_, pss_cons (ps_fld (pv 0) (pv 1) rfl) (pss_cons (ps_fld (pv 0) (pv 2) rfl) (pss_one (ps_fld (pv 0) (pv 3) rfl))), ?_⟩)
  · obtain ⟨o, dx, wh, l, p, rfl, _⟩ := h
    rfl
  · obtain ⟨o, dx, wh, l, p, rfl, ho, q⟩ := h
    refine ⟨_, rfl, _, rfl, o, C, dx, [], rfl, ho, T.cl, T.nW, (by show 0 < 1000; decide), ?_⟩
    refine ⟨_, rfl, _, rfl, o, C, dx, _, rfl, upd_same, T.cl, T.nL, (by show 1 < 1000; decide), ?_⟩
    refine ⟨_, rfl, _, rfl, o, C, dx, _, rfl, upd_same, T.cl, T.nP, (by show 2 < 1000; decide), ?_⟩
    refine q _ ⟨dx, upd_same.trans ?_⟩ fun b x e hb => ?_
    · congr 1
    · rw [upd_ne hb, upd_ne hb, upd_ne hb]
      exact e
end
end Bd
end
section
set_option Elab.async false
set_option linter.all false
set_option maxRecDepth 100000
set_option maxHeartbeats 4000000
set_option autoImplicit false
namespace Bd
open PySem PySem.Spec PyProof.Rows L2
def sideV (b : Bool) : V := .int (if b = true then 1 else 0)
def wTup (x : Nat × Bool) : List V := [.int x.1, sideV x.2]
/-- what waits, as a list at r -/
def WaitAt (H : Hp) (r : Addr) (ws : List (Nat × Bool)) : Prop := ∃ as, H r = some (.lst (as.map V.ref)) ∧ Tups H as (ws.map wTup)
theorem Tups.app {H : Hp} {as : List Addr} {xs : List (List V)} (t : Tups H as xs) {bs : List Addr} {ys : List (List V)} (u : Tups H bs ys) : Tups H (as ++ bs) (xs ++ ys) := by
  induction t with
  | nil => exact u
  | cons e _ ih => exact .cons e ih
def partsW : Nat → List Co01.Ag → List (Nat × Bool)
  | _, [] => []
  | o, t :: ts => Mx.waitsAt false o t ++ partsW (o + (Mx.post t).length) ts
theorem waits_flip : ∀ (a : Co01.Ag) (b : Bool) (o : Nat), Mx.waitsAt (!b) o a = (Mx.waitsAt b o a).map fun x => (x.1, !x.2)
  | .nothing, _, _ => rfl
  | .pay _, _, _ => rfl
  | .both a c, b, o => by simp [Mx.waitsAt, waits_flip a b, waits_flip c b]
  | .or _ _, _, _ => rfl
  | .else_ _ _, b, _ => by simp [Mx.waitsAt]
  | .at_ _ _, _, _ => rfl
  | .may _ _, _, _ => rfl
  | .if_ _ _ _, _, _ => rfl
  | .give a, b, o => by simp only [Mx.waitsAt]; exact waits_flip a (!b) o
  | .times _ a, b, o => by simp only [Mx.waitsAt]; exact waits_flip a b o
  | .halt_ _ a, b, o => by simp only [Mx.waitsAt]; exact waits_flip a b o
section
variable {P : Program} {w : World} {K : PySem.W.Frag} {mg : Str → Option Value} {base : Heap} {f : Addr} {fd : FuncData}
/-! ## waiting_at -/
abbrev sWaitAt : Stmt := top 25
def spWaitAt : Sp := fun vs H Q _ => ∃ (pl o : Nat) (p : Addr) (a : Co01.Ag) (ts : List Co01.Ag) (x : Mx.St), vs = [.int pl, .str (sB x.w), .ref p] ∧ Shape a ts x ∧ WaitAt H p (partsW o ts) ∧ (partsW o ts).length ≤ 1000 ∧ pl + 1 = o + (Mx.post a).length ∧ ∀ (H' : Hp) (r : Addr), Same H H' → (r = p ∨ H r = none) → WaitAt H' r (Mx.waitsAt false o a) → Q (.ref r) H'
def waitScope : Scope := match (defBody sWaitAt).drop 3 with
  | Stmt.If _ [Stmt.Return (some (Expr.ListComp _ _ sc _)) _] _ _ :: _ => sc
  | _ => defScope sWaitAt
theorem scWaitAt : FnScope ["place", "word", "within", "inner", "side"] ["place", "word", "within"] (defScope sWaitAt) := ⟨rfl, rfl, rfl, by decide +kernel, rfl, by decide +kernel, by decide +kernel⟩
theorem blWait : BlkOk ["place", "word", "within", "inner", "side"] (defScope sWaitAt) waitScope [("inner", 3), ("side", 4)] := ⟨rfl, by decide +kernel, by decide +kernel, by decide +kernel, by decide +kernel⟩
theorem ok_waitAt {f1 : Addr} {fd1 : FuncData} (F : FnP K "waiting_at" sWaitAt f fd) (F1 : FnP K "exchanged" sExch f1 fd1) (m1 : mg "exchanged" = some (.ref f1)) (G1 : FnOk P w K mg base CX0 1 f1 fd1 ["side"] spExch)
    (gH : IntG mg "HOLDER" 0) (gO : IntG mg "OTHER_SIDE" 1) : FnOk P w K mg base CX0 2 f fd ["place", "word", "within"] spWaitAt := by
  have b1 : Binds K fd1 ["side"] [] := F1.binds fun _ _ _ _ _ _ us hl => match us, hl with | [_], _ => rfl
  refine F.ok scWaitAt (fun vs H Q E h => ?_) (fun cdv A outer s H vs Q E hr h => ⟨_, (pss_cons (ps_if (pt_cmpR op_in_seq (pv 1) (pe_tup (pa_cons pe_str (pa_cons pe_str pa_nil))) rfl) (pss_one (ps_ret (pe_lst (pa_cons (pe_tup (pa_cons (pv 0) (pa_cons (pe_gint gH) pa_nil))) pa_nil)))) pss_nil)
    (pss_cons (ps_if (pt_cmpR op_eq (pv 1) pe_str (nomark _)) (pss_one (ps_ret (pe_lst (pa_cons (pe_tup (pa_cons (pv 0) (pa_cons (pe_gint gO) pa_nil))) pa_nil)))) pss_nil)
    (pss_cons (ps_if (pt_cmpR op_in_seq (pv 1) (pe_tup (pa_cons pe_str (pa_cons pe_str pa_nil))) rfl) (pss_one (ps_ret (pe_lst pa_nil))) pss_nil)
    (pss_cons (ps_if (pt_cmpR op_eq (pv 1) pe_str (nomark _)) (pss_one (ps_ret (pe_lc (own := [("inner", 3), ("side", 4)]) (g := gTup K 2 (gCons (gName 3) (gCons (gName 4) gNil))) (tt := tYes) rfl scWaitAt.nd (pi_list (pv 2)) blWait
        (fun _ _ _ _ _ => pg_tup rfl (pgs_cons (pg_name (i := 3) scWaitAt.nd rfl (.inl rfl)) (pgs_cons (pg_name (i := 4) scWaitAt.nd rfl (.inl rfl)) pgs_nil)))
        (fun _ _ _ _ _ => pts_nil)
        (fun _ _ _ _ _ => pe_tup (pa_cons (pv 3) (pa_cons (pe_call G1 hr rfl m1 F1.kp b1 .nil pass0 (pa_cons (pv 4) pa_nil)) pa_nil)))))) pss_nil)
    (pss_one (ps_ret (pv 2))))))), ?_⟩)
  · obtain ⟨pl, o, p, a, ts, x, rfl, _⟩ := h
    rfl
  · obtain ⟨pl, o, p, a, ts, x, rfl, sh, hp, len, hpl, q⟩ := h
    -- one that waits, alone
    have single : ∀ (H1 : Hp) (b : Bool), Same H H1 → Mx.waitsAt false o a = [(pl, b)] → ∀ (t2 : Addr), H1 t2 = none → ∀ (l : Addr), L2.upd H1 t2 (.tup [.int (pl : Int), sideV b]) l = none → Q (.ref l) (L2.upd (L2.upd H1 t2 (.tup [.int (pl : Int), sideV b])) l (.lst [.ref t2])) := fun H1 b k1 e t2 ht2 l hl => by
      refine q _ l (same_new (same_new k1 ht2 _) hl _) (.inr ((same_new k1 ht2 _).free hl)) ?_
      rw [e]
      exact ⟨[t2], upd_same, .cons (by rw [upd_ne (fun z => by rw [← z, upd_same] at hl; cases hl)]; exact upd_same) .nil⟩
    have back : ∀ (H1 : Hp), Same H H1 → Mx.waitsAt false o a = partsW o ts → Q (.ref p) H1 := fun H1 k1 e => by
      refine q H1 p k1 (.inl rfl) ?_
      rw [e]
      obtain ⟨as, h1, h2⟩ := hp
      exact ⟨as, k1 _ _ h1, h2.keeps (Bd.Same.tk k1)⟩
    have none_ : ∀ (H1 : Hp), Same H H1 → Mx.waitsAt false o a = [] → ∀ l : Addr, H1 l = none → Q (.ref l) (L2.upd H1 l (.lst [])) := fun H1 k1 e l hl => by
      refine q _ l (same_new k1 hl _) (.inr (k1.free hl)) ?_
      rw [e]
      exact ⟨[], upd_same, .nil⟩
    refine ⟨_, rfl, (by show 2 ≤ sizeLine; decide), fun t1 ht1 => ⟨t1, _, rfl, .inr (.inl (.inl upd_same)), rfl, rfl, _, rfl, ?_⟩⟩
    have k1 : Same H (L2.upd H t1 (.tup [.str "or", .str "may"])) := same_new (Same.refl H) ht1 _
    cases sh with
    | or a b => exact if_in (by dsimp only [Mx.st]; decide +kernel) ⟨_, rfl, (by show 2 ≤ sizeLine; decide), fun t2 ht2 => ⟨(by show 1 ≤ sizeLine; decide), fun l hl => single _ false k1 (by simp [Mx.waitsAt, Mx.post] at hpl ⊢; omega) t2 ht2 l hl⟩⟩
    | may k a => exact if_in (by dsimp only [Mx.st]; decide +kernel) ⟨_, rfl, (by show 2 ≤ sizeLine; decide), fun t2 ht2 => ⟨(by show 1 ≤ sizeLine; decide), fun l hl => single _ false k1 (by simp [Mx.waitsAt, Mx.post] at hpl ⊢; omega) t2 ht2 l hl⟩⟩
    | else_ a b => exact if_out (by dsimp only [Mx.st]; decide +kernel) ⟨_, rfl, rfl, _, rfl, if_eq (by dsimp only [Mx.st]; decide +kernel) ⟨_, rfl, (by show 2 ≤ sizeLine; decide), fun t2 ht2 => ⟨(by show 1 ≤ sizeLine; decide), fun l hl => single _ true k1 (by simp [Mx.waitsAt, Mx.post] at hpl ⊢; omega) t2 ht2 l hl⟩⟩⟩
    | at_ k a => exact if_out (by dsimp only [Mx.st]; decide +kernel) ⟨_, rfl, rfl, _, rfl, if_ne (by dsimp only [Mx.st]; decide +kernel) ⟨_, rfl, (by show 2 ≤ sizeLine; decide), fun t2 ht2 => ⟨t2, _, rfl, .inr (.inl (.inl upd_same)), rfl, rfl, _, rfl, if_in (by dsimp only [Mx.st]; decide +kernel) ⟨(by show 0 ≤ sizeLine; decide), fun l hl => none_ _ (same_new k1 ht2 _) rfl l hl⟩⟩⟩⟩
    | if_ c a b => exact if_out (by dsimp only [Mx.st]; decide +kernel) ⟨_, rfl, rfl, _, rfl, if_ne (by dsimp only [Mx.st]; decide +kernel) ⟨_, rfl, (by show 2 ≤ sizeLine; decide), fun t2 ht2 => ⟨t2, _, rfl, .inr (.inl (.inl upd_same)), rfl, rfl, _, rfl, if_in (by dsimp only [Mx.st]; decide +kernel) ⟨(by show 0 ≤ sizeLine; decide), fun l hl => none_ _ (same_new k1 ht2 _) rfl l hl⟩⟩⟩⟩
    | nothing => exact if_out (by dsimp only [Mx.st]; decide +kernel) ⟨_, rfl, rfl, _, rfl, if_ne (by dsimp only [Mx.st]; decide +kernel) ⟨_, rfl, (by show 2 ≤ sizeLine; decide), fun t2 ht2 => ⟨t2, _, rfl, .inr (.inl (.inl upd_same)), rfl, rfl, _, rfl, if_out (by dsimp only [Mx.st]; decide +kernel) ⟨_, rfl, rfl, _, rfl, if_ne (by dsimp only [Mx.st]; decide +kernel) ⟨_, rfl, back _ (same_new k1 ht2 _) rfl⟩⟩⟩⟩⟩
    | pay e => exact if_out (by dsimp only [Mx.st]; decide +kernel) ⟨_, rfl, rfl, _, rfl, if_ne (by dsimp only [Mx.st]; decide +kernel) ⟨_, rfl, (by show 2 ≤ sizeLine; decide), fun t2 ht2 => ⟨t2, _, rfl, .inr (.inl (.inl upd_same)), rfl, rfl, _, rfl, if_out (by dsimp only [Mx.st]; decide +kernel) ⟨_, rfl, rfl, _, rfl, if_ne (by dsimp only [Mx.st]; decide +kernel) ⟨_, rfl, back _ (same_new k1 ht2 _) rfl⟩⟩⟩⟩⟩
    | both a b => exact if_out (by dsimp only [Mx.st]; decide +kernel) ⟨_, rfl, rfl, _, rfl, if_ne (by dsimp only [Mx.st]; decide +kernel) ⟨_, rfl, (by show 2 ≤ sizeLine; decide), fun t2 ht2 => ⟨t2, _, rfl, .inr (.inl (.inl upd_same)), rfl, rfl, _, rfl, if_out (by dsimp only [Mx.st]; decide +kernel) ⟨_, rfl, rfl, _, rfl, if_ne (by dsimp only [Mx.st]; decide +kernel) ⟨_, rfl, back _ (same_new k1 ht2 _) (by simp [partsW, Mx.waitsAt])⟩⟩⟩⟩⟩
    | times e a => exact if_out (by dsimp only [Mx.st]; decide +kernel) ⟨_, rfl, rfl, _, rfl, if_ne (by dsimp only [Mx.st]; decide +kernel) ⟨_, rfl, (by show 2 ≤ sizeLine; decide), fun t2 ht2 => ⟨t2, _, rfl, .inr (.inl (.inl upd_same)), rfl, rfl, _, rfl, if_out (by dsimp only [Mx.st]; decide +kernel) ⟨_, rfl, rfl, _, rfl, if_ne (by dsimp only [Mx.st]; decide +kernel) ⟨_, rfl, back _ (same_new k1 ht2 _) (by simp [partsW, Mx.waitsAt])⟩⟩⟩⟩⟩
    | halt_ c a => exact if_out (by dsimp only [Mx.st]; decide +kernel) ⟨_, rfl, rfl, _, rfl, if_ne (by dsimp only [Mx.st]; decide +kernel) ⟨_, rfl, (by show 2 ≤ sizeLine; decide), fun t2 ht2 => ⟨t2, _, rfl, .inr (.inl (.inl upd_same)), rfl, rfl, _, rfl, if_out (by dsimp only [Mx.st]; decide +kernel) ⟨_, rfl, rfl, _, rfl, if_ne (by dsimp only [Mx.st]; decide +kernel) ⟨_, rfl, back _ (same_new k1 ht2 _) (by simp [partsW, Mx.waitsAt])⟩⟩⟩⟩⟩
    | give a =>
      refine if_out (by dsimp only [Mx.st]; decide +kernel) ⟨_, rfl, rfl, _, rfl, if_ne (by dsimp only [Mx.st]; decide +kernel) ⟨_, rfl, (by show 2 ≤ sizeLine; decide), fun t2 ht2 => ⟨t2, _, rfl, .inr (.inl (.inl upd_same)), rfl, rfl, _, rfl, if_out (by dsimp only [Mx.st]; decide +kernel) ⟨_, rfl, rfl, _, rfl, if_eq (by dsimp only [Mx.st]; decide +kernel) ?_⟩⟩⟩⟩
      obtain ⟨as, hp1, tu⟩ := hp
      have k2 := same_new k1 ht2 (.tup [.str "at", .str "if"])
      generalize hH2 : L2.upd (L2.upd H t1 (.tup [.str "or", .str "may"])) t2 (.tup [.str "at", .str "if"]) = H2 at k2
      refine ⟨_, rfl, p, rfl, ⟨as.map V.ref, .inl (.inl (k2 _ _ hp1))⟩, fun D hD => ?_⟩
      have hW : Mx.waitsAt false o (.give a) = (partsW o [a]).map fun x => (x.1, !x.2) := by
        simp only [Mx.waitsAt, partsW, List.append_nil]
        exact waits_flip a false o
      have kD : Same H2 (L2.upd H2 D (.lst [])) := same_new (Same.refl H2) hD _
      have pD : p ≠ D := fun z => by rw [← z, k2 _ _ hp1] at hD; cases hD
      have lenA : as.length = (partsW o [a]).length := by rw [tu.length, List.length_map]
      refine lc_list (K := K) (a := p) (xs := as.map V.ref) (fun i H3 => But D H2 H3 ∧ ∃ bs, H3 D = some (.lst (bs.map V.ref)) ∧ bs.length = i ∧ Tups H3 bs ((((partsW o [a]).take i).map fun x => (x.1, !x.2)).map wTup)) ⟨fun b x e n => by rw [upd_ne n]; exact e, [], upd_same, rfl, .nil⟩ (fun i H3 hi h => ?_) (fun i y H3 hi h => ?_) (fun H3 h => ?_)
      · exact .inl (.inl (h.1 _ _ (k2 _ _ hp1) pD))
      · obtain ⟨bt, bs, hDb, hbl, tb⟩ := h
        obtain ⟨b, y, rfl, hy, hb⟩ := tu.at_ hi
        rw [List.getElem?_map] at hy
        obtain ⟨x, hx, rfl⟩ := Option.map_eq_some_iff.mp hy
        have bD : b ≠ D := fun z => by rw [← z, k2 _ _ hb] at hD; cases hD
        have hb' := bt _ _ (k2 _ _ hb) bD
        have hi' : i < (partsW o [a]).length := by
          have := List.getElem?_eq_some_iff.mp hx
          exact this.1
        refine ⟨b, wTup x, rfl, .inl (.inl hb'), rfl, _, _, rfl, _, _, rfl, rfl, rfl, ?_⟩
        dsimp only [tYes]
        rw [if_pos rfl]
        refine ⟨_, rfl, _, rfl, x.2, rfl, (by show 2 ≤ sizeLine; decide), fun t3 ht3 => ?_⟩
        have dt3 : D ≠ t3 := fun z => by rw [z, ht3] at hDb; cases hDb
        refine ⟨bs.map V.ref, by rw [upd_ne dt3]; exact hDb, small1000 (by rw [List.length_map]; omega), (bt.fresh ht3 _).upd _, bs ++ [t3], ?_, by simp [hbl], ?_⟩
        · rw [upd_same, List.map_append]; rfl
        · rw [List.take_add_one, hx]
          simp only [Option.toList_some, List.map_append, List.map_cons, List.map_nil]
          have kt : Tk H3 (L2.upd (L2.upd H3 t3 (.tup [.int (x.1 : Int), .int (if x.2 = true then 0 else 1)])) D (.lst (bs.map V.ref ++ [.ref t3]))) := fun b x e => by
            rw [upd_ne (fun z => by rw [z, hDb] at e; cases e), upd_ne (fun z => by rw [z, ht3] at e; cases e)]; exact e
          refine (tb.keeps kt).snoc ?_
          rw [upd_ne dt3.symm, upd_same]
          cases hs : x.2 <;> simp [wTup, sideV, hs]
      · obtain ⟨bt, bs, hDb, hbl, tb⟩ := h
        rw [List.length_map, lenA, List.take_of_length_le (Nat.le_refl _)] at tb
        refine q H3 D (fun b x e => bt b x (k2 b x e) (fun z => by rw [z] at e; rw [k2 _ _ e] at hD; cases hD)) (.inr (k2.free hD)) ?_
        rw [hW]
        exact ⟨bs, hDb, tb⟩
end
end Bd
end
section
set_option Elab.async false
set_option linter.all false
set_option maxRecDepth 100000
set_option maxHeartbeats 2000000
/-! enumerate over a tuple; zip of a list and a tuple. -/
namespace L2
open PySem PySem.Spec PyProof.Rows
/-! ### enumerate(tuple) -/
def IteT (K : PySem.W.Frag) (a : Addr) : It :=
  ⟨fun i H => ∃ (xs : List V) (x : V), SqT K H a xs ∧ xs[i]? = some x, fun i H v H' => ∃ T x, v = .ref T ∧ H T = none ∧ H' = upd H T (.tup [.int (i : Nat), x]) ∧ ∀ xs, SqT K H a xs → xs[i]? = some x, fun i H => ∃ xs : List V, SqT K H a xs ∧ xs.length = i⟩
theorem turn_enumT {P : Program} {w : World} {K : PySem.W.Frag} {elts : List Expr} {kk : Nat} {tpos : Pos} (a e it : Addr) (hne : e ≠ it) (hea : e ≠ a) (hia : a ≠ it) :
    Turn P w K (.Tuple elts kk tpos) (IteT K a) [e, it] e (fun i h => (∃ old, IsEnum h e it ((i : Nat) : Int) old) ∧ h.IsTupleIter it a i) where
  mem := by simp
  obj := fun i h st b hb => by
    obtain ⟨⟨old, he⟩, ⟨o, ho, hc, hd⟩⟩ := st
    have e' : b = e ∨ b = it := by simpa using hb
    rcases e' with z | z
    · rw [z]; exact ⟨_, he, fun v q => nomatch q⟩
    · rw [z]; exact ⟨o, ho, fun v q => by rw [hd] at q; cases q⟩
  keep := fun i h h' st k => let ⟨⟨old, he⟩, hi⟩ := st; ⟨⟨old, k e (by simp) _ he⟩, hi.at fun o q => k it (by simp) o q⟩
  item := by
    intro X hP hw hK hc i pins s σ H E I hf st hg
    subst hP hw hK
    obtain ⟨⟨old, he⟩, hit⟩ := st
    obtain ⟨xs, x, hq, hx⟩ := hg
    obtain ⟨its, rv, p, hz⟩ := I.tuple hq
    obtain ⟨u, hu, ru⟩ := rv.get hx
    have hel : e < s.heap.objs.size := Heap.lt_size he
    have hil : it < s.heap.objs.size := by obtain ⟨_, q, _⟩ := hit; exact Heap.lt_size q
    have hlt : i < its.toArray.size := by
      have := (List.getElem?_eq_some_iff.mp hu).1
      simpa using this
    have D := Draws.tuple (prog := X.prog) (w := X.w) (A := X.A.in1) (show X.A.in1.handled = none from I.ok.hd hc) it a hia its.toArray
    refine wpAny_pyNext_enum_itemD D he ⟨hit, p⟩ hlt hne (by simp [hne, hea]) fun y h' tk hy ho hit' hT hsz hk => ?_
    have yu : y = u := by
      have h1 : its.toArray[i]? = some u := by simpa using hu
      rw [h1] at hy; exact (Option.some.inj hy).symm
    subst yu
    refine ⟨_, rfl, wpAny_letOwnedTupleGo_enum (s := { s with heap := h', toks := tk + 1 }) ho fun h'' he' sb => ?_⟩
    have hT2 : h''.get? s.heap.objs.size = some { cls := .type "tuple", data := .seq #[.int i tk, y] } := (sb.2 _ (Nat.ne_of_gt hel)).trans hT
    have new : ObjOk X.prog X.w (upd H s.heap.objs.size (.tup [.int (i : Nat), x])) h'' s.heap.objs.size (.tup [.int (i : Nat), x]) :=
      ⟨by show 2 ≤ sizeLine; decide, [.int i tk, y], .cons ⟨_, rfl⟩ (.cons ru .nil), ⟨_, hT2, rfl, _, rfl⟩⟩
    have I1 : Inv X pins σ (upd H s.heap.objs.size (.tup [.int (i : Nat), x])) { s with heap := h'', toks := tk + 1 } :=
      I.turnedNew (ch := [e, it]) (fun b ob hb q => (sb.2 b (fun z => hb (by simp [z]))).trans (hk b ob (fun z => hb (by simp [z])) (fun z => hb (by simp [z])) q)) hf (Nat.le_refl _) new
    refine ⟨.ref s.heap.objs.size, _, I1, rfl, ⟨_, x, rfl, I.hok.fresh (Nat.le_refl _), rfl, fun ys hy => by rw [I.tuple_inj hy hq]; exact hx⟩, ⟨⟨y, ?_⟩, hit'.1.at fun o q => (sb.2 it (Ne.symm hne)).trans q⟩, fun b hb => ?_⟩
    · have e1 : ((i + 1 : Nat) : Int) = (i : Int) + 1 := by omega
      rw [e1]; exact he'
    · have hb' : b < s.heap.objs.size := by
        have e' : b = e ∨ b = it := by simpa using hb
        rcases e' with z | z
        · rw [z]; exact hel
        · rw [z]; exact hil
      rw [upd_ne (Nat.ne_of_lt hb')]
      exact (hf b hb).1
  done := by
    intro X hP hw hK hc i pins s σ H E I hf st hg
    subst hP hw hK
    obtain ⟨⟨old, he⟩, hit⟩ := st
    obtain ⟨xs, hq, hx⟩ := hg
    obtain ⟨its, rv, p, hz⟩ := I.tuple hq
    obtain ⟨f0, f1, f2, f3, f4, f5⟩ := hf it (by simp)
    have hl := rv.length
    have hn : its.toArray.size = i := by simp; omega
    have D := Draws.tuple (prog := X.prog) (w := X.w) (A := X.A.in1) (show X.A.in1.handled = none from I.ok.hd hc) it a hia its.toArray
    exact wpAny_pyNext_enum_endD D he (by rw [hn]; exact ⟨hit, p⟩) fun h' eb => ⟨rfl, I.turned (t' := s.toks) (fun b o hb q => eb b o hb q) f0 f1 f3 f4 f5⟩
  self := fun A i s Q E st h => let ⟨⟨_, he⟩, _⟩ := st; wpAny_pyIter_enum he h
open AutoSeq1 (wpAny_loadPart') in
theorem meets_enumerate_newT (l : Addr) (items : Array Value) :
    Meets (Builtin.«enumerate.__new__» ⟨[.type "enumerate", .ref l], []⟩) (fun _ R s => s.heap.IsTuple l items ∧
      R (.ok (.ret (.ref (s.heap.push { cls := .type "tuple_iterator", data := .fields #[.ref l, .int 0 0] }).objs.size)))
        { s with heap := (s.heap.push { cls := .type "tuple_iterator", data := .fields #[.ref l, .int 0 0] }).push { cls := .type "enumerate", data := .fields #[.none, .bool false, .ref s.heap.objs.size, rawInt 0, .none, .none] } }) :=
  .of_wp fun prog w A R s h => by
    obtain ⟨hp, g, d, tk, os⟩ := s; obtain ⟨hl, h⟩ := h
    have hsub := sub_enumerate
    have hL : Heap.IsTuple (Shared.heap ⟨hp, g, d, tk, os⟩) l items := hl
    wp_walk using wpAny_pyIter_tuple hL
    refine wpAny_stack_any fun st => wpAny_pure ?_
    split
    · rename_i c _ _ _ _ _
      cases (c == Value.type "enumerate")
      · wp_walk using wpAny_pyIter_tuple hL
        exact ⟨_, rfl, h⟩
      · wp_walk using wpAny_pyIter_tuple hL
        exact ⟨_, rfl, h⟩
    · wp_walk using wpAny_pyIter_tuple hL
      exact ⟨_, rfl, h⟩
section
variable {prog : Program} {w : World} {A : Around} {E : Value → Shared → Prop} {s : Shared}
theorem call_enumerate_tuple {l : Addr} {items : Array Value} {Q : Value → Shared → Prop} (hL : s.heap.IsTuple l items)
    (h : ∀ h', IsEnum h' (s.heap.objs.size + 1) s.heap.objs.size 0 .none → h'.IsTupleIter s.heap.objs.size l 0 → h'.objs.size = s.heap.objs.size + 2 →
      (∀ b o, s.heap.get? b = some o → h'.get? b = some o) → Q (.ref (s.heap.objs.size + 1)) { s with heap := h' }) :
    wpAny (model prog w) A (call (.type "enumerate") [.ref l]) Q E s := by
  refine callType_new F.called_enumerate (by decide) (F.typeCall_enumerate_1 _) (F.newCall_enumerate_1 _) (fun obj => F.args_object_init_2 obj _) F.entry_enumerate_new
    (meets_enumerate_newT l items) ⟨hL, ?_⟩
  have hz : (s.heap.push { cls := .type "tuple_iterator", data := .fields #[.ref l, .int 0 0] }).objs.size = s.heap.objs.size + 1 := Heap.size_push ..
  show _ ∧ _
  rw [hz]
  have he : IsEnum ((s.heap.push { cls := .type "tuple_iterator", data := .fields #[.ref l, .int 0 0] }).push
      { cls := .type "enumerate", data := .fields #[.none, .bool false, .ref s.heap.objs.size, rawInt 0, .none, .none] }) (s.heap.objs.size + 1) s.heap.objs.size 0 .none := by
    have := Heap.get?_push_size (s.heap.push { cls := .type "tuple_iterator", data := .fields #[.ref l, .int 0 0] })
      (o := { cls := .type "enumerate", data := .fields #[.none, .bool false, .ref s.heap.objs.size, rawInt 0, .none, .none] }) rfl
    rw [hz] at this; exact this
  refine ⟨⟨_, he, rfl⟩, h _ he ⟨_, Heap.get?_push_of_some _ (Heap.get?_push_size _ rfl), rfl, rfl⟩ (by rw [Heap.size_push, hz]) fun b o x => Heap.get?_push_of_some _ (Heap.get?_push_of_some _ x)⟩
end
def iEnumT (K : PySem.W.Frag) (ta : TA) : TI := fun σ H R => ta σ H fun vs H1 => ∃ a xs, vs = [.ref a] ∧ SqT K H1 a xs ∧ R (IteT K a) H1
theorem pi_enumT {X : Cx} {e : Expr} {ta : TA} {p pos tpos : Pos} {elts : List Expr} {kk : Nat} (hg : Gl X "enumerate") (hm : X.mg "enumerate" = none) (ha : PA X [e] ta) (hs : starEach [e] X.env = [(false, eval e X.env)] := by rfl) :
    PI X (.Tuple elts kk tpos) (.Call (.Name "enumerate" p) [e] [] pos) (iEnumT X.K ta) := by
  refine ⟨fun pins s σ H R I h => ?_⟩
  refine Call_ (ld_blt I hg hm boot_enumerate (PyProof.Rows.callWith_type1 (thn (ha.run pos pins s σ H _ I h) fun us s1 ⟨vs, H1, I1, r1, q1⟩ => ?_) hs rfl))
  obtain ⟨a, xs, ex, hq, q⟩ := q1
  subst ex
  cases r1 with
  | cons r rr =>
    cases rr
    cases r
    obtain ⟨its, rv, p', hz⟩ := I1.tuple hq
    have al : a < s1.heap.objs.size := by obtain ⟨o, ho, _⟩ := id p'; exact Heap.lt_size ho
    refine call_enumerate_tuple p' fun h' he hit hsz hk => wpAny_pyIter_enum he ?_
    have I2 : Inv X pins σ H1 { s1 with heap := h' } := I1.kept (t' := s1.toks) hk
    refine ⟨s1.heap.objs.size + 1, [s1.heap.objs.size + 1, s1.heap.objs.size], _, _, H1, rfl, I2, turn_enumT a (s1.heap.objs.size + 1) s1.heap.objs.size (Nat.succ_ne_self _) (Nat.ne_of_gt (Nat.lt_succ_of_lt al)) (Nat.ne_of_lt al), ⟨⟨.none, he⟩, hit⟩, fun b hb => ?_, q⟩
    have e' : b = s1.heap.objs.size + 1 ∨ b = s1.heap.objs.size := by simpa using hb
    have hle : s1.heap.objs.size ≤ b := by
      rcases e' with z | z
      · rw [z]; exact Nat.le_add_right _ _
      · rw [z]; exact Nat.le_refl _
    exact I1.fpOk hle (I1.hok.fresh hle)
/-- a loop over enumerate of a tuple -/
theorem for_enumT {K : PySem.W.Frag} {a : Addr} {xs : List V} {g : TG} {tb : TS} {D : Ends} {σ : L2.St} {H : Hp} (Pv : Nat → L2.St → Hp → Prop) (h0 : Pv 0 σ H) (hq : ∀ i σ H, Pv i σ H → SqT K H a xs)
    (hs : ∀ (i : Nat) (x : V) (T : Addr) (σ : L2.St) (H : Hp), xs[i]? = some x → Pv i σ H → H T = none → g (.ref T) σ (upd H T (.tup [.int (i : Nat), x])) fun σ2 H2 => tb { D with nx := Pv (i + 1), ct := Pv (i + 1), bk := D.nx } σ2 H2) (hd : ∀ σ H, Pv xs.length σ H → D.nx σ H) :
    ∃ W : Nat → Nat → L2.St → Hp → Prop, (∃ m, W 0 m σ H) ∧ ∀ i m σ H, W i m σ H →
      ((IteT K a).stop i H ∧ D.nx σ H) ∨ ((IteT K a).go i H ∧ ∃ N : L2.St → Hp → Prop, (∀ σ' H', N σ' H' → ∃ m', m' < m ∧ W (i + 1) m' σ' H') ∧ ∀ v H', (IteT K a).yld i H v H' → g v σ H' fun σ2 H2 => tb { D with nx := N, ct := N, bk := D.nx } σ2 H2) := by
  refine ⟨fun i m σ H => m = xs.length - i ∧ i ≤ xs.length ∧ Pv i σ H, ⟨xs.length, rfl, Nat.zero_le _, h0⟩, ?_⟩
  rintro i m σ H ⟨rfl, hi, p⟩
  have qx := hq i σ H p
  by_cases hlt : i < xs.length
  · have hx : xs[i]? = some xs[i] := List.getElem?_eq_getElem hlt
    refine .inr ⟨⟨xs, _, qx, hx⟩, Pv (i + 1), fun σ' H' p' => ⟨xs.length - (i + 1), by omega, rfl, hlt, p'⟩, fun v H' y => ?_⟩
    obtain ⟨T, x', rfl, hT, rfl, f1⟩ := y
    exact hs i x' T σ H (f1 xs qx) p hT
  · have e : i = xs.length := by omega
    subst e
    exact .inl ⟨⟨xs, qx, rfl⟩, hd σ H p⟩
/-! ### zip(list, tuple) -/
def ItzM (K : PySem.W.Frag) (a b : Addr) : It :=
  ⟨fun i H => ∃ (xs ys : List V) (x y : V), SqL K H a xs ∧ SqT K H b ys ∧ xs[i]? = some x ∧ ys[i]? = some y,
    fun i H v H' => ∃ T x y, v = .ref T ∧ H T = none ∧ H' = upd H T (.tup [x, y]) ∧ (∀ xs, SqL K H a xs → xs[i]? = some x) ∧ ∀ ys, SqT K H b ys → ys[i]? = some y,
    fun i H => ∃ xs ys : List V, SqL K H a xs ∧ SqT K H b ys ∧ xs.length = i ∧ ys.length = i⟩
theorem turn_zipM {P : Program} {w : World} {K : PySem.W.Frag} {elts : List Expr} {kk : Nat} {tpos : Pos} {a b z TI TO i1 i2 : Addr} (S : ZipSep2 z TI TO i1 i2 [i1, a] [i2, b]) (ha1 : a ≠ i1) (hb2 : b ≠ i2) :
    Turn P w K (.Tuple elts kk tpos) (ItzM K a b) [z, TI, TO, i1, i2] z (fun i h => IsZip h z TI TO .none ∧ IsTupOf2 h TI (.ref i1) (.ref i2) ∧ (∃ x y, IsTupOf2 h TO x y) ∧ h.IsListIter i1 a i ∧ h.IsTupleIter i2 b i) where
  mem := by simp
  obj := fun i h st c hc => by
    obtain ⟨hz, hTI, ⟨x, y, hTO⟩, ⟨o1, e1, _, d1⟩, ⟨o2, e2, _, d2⟩⟩ := st
    have e' : c = z ∨ c = TI ∨ c = TO ∨ c = i1 ∨ c = i2 := by simpa using hc
    rcases e' with q | q | q | q | q
    · rw [q]; exact ⟨_, hz, fun v q => nomatch q⟩
    · rw [q]; exact ⟨_, hTI, fun v q => nomatch q⟩
    · rw [q]; exact ⟨_, hTO, fun v q => nomatch q⟩
    · rw [q]; exact ⟨o1, e1, fun v q => by rw [d1] at q; cases q⟩
    · rw [q]; exact ⟨o2, e2, fun v q => by rw [d2] at q; cases q⟩
  keep := fun i h h' st k => by
    obtain ⟨hz, hTI, ⟨x, y, hTO⟩, h1, h2⟩ := st
    exact ⟨k z (by simp) _ hz, k TI (by simp) _ hTI, ⟨x, y, k TO (by simp) _ hTO⟩, h1.at fun o q => k i1 (by simp) o q, h2.at fun o q => k i2 (by simp) o q⟩
  item := by
    intro X hP hw hK hc i pins s σ H E I hf st hg
    subst hP hw hK
    obtain ⟨hz, hTI, ⟨x0, y0, hTO⟩, h1, h2⟩ := st
    obtain ⟨xs, ys, x, y, hqx, hqy, hx, hy⟩ := hg
    obtain ⟨its, rv, p, _⟩ := I.list hqx
    obtain ⟨its2, rv2, p2, _⟩ := I.tuple hqy
    obtain ⟨u, hu, ru⟩ := rv.get hx
    obtain ⟨u2, hu2, ru2⟩ := rv2.get hy
    have hzl : z < s.heap.objs.size := Heap.lt_size hz
    have lt1 : i < its.toArray.size := by
      have := (List.getElem?_eq_some_iff.mp hu).1
      simpa using this
    have lt2 : i < its2.toArray.size := by
      have := (List.getElem?_eq_some_iff.mp hu2).1
      simpa using this
    have hh : X.A.in1.handled = none := I.ok.hd hc
    have D1 := Draws.list (prog := X.prog) (w := X.w) (A := X.A.in1) hh i1 a ha1 its.toArray
    have D2 := Draws.tuple (prog := X.prog) (w := X.w) (A := X.A.in1) hh i2 b hb2 its2.toArray
    refine wpAny_pyNext_zipD2_item S D1 D2 hz hTI hTO ⟨h1, p.isList⟩ ⟨h2, p2⟩ lt1 lt2 fun v1 v2 h' tk hv1 hv2 z' TO' h1' h2' hT hsz hk => ?_
    have e1 : v1 = u := by
      have h1 : its.toArray[i]? = some u := by simpa using hu
      rw [h1] at hv1; exact (Option.some.inj hv1).symm
    have e2 : v2 = u2 := by
      have h1 : its2.toArray[i]? = some u2 := by simpa using hu2
      rw [h1] at hv2; exact (Option.some.inj hv2).symm
    subst e1 e2
    refine ⟨_, rfl, wpAny_letOwnedTupleGo_zip (s := { s with heap := h', toks := tk }) z' fun h'' z'' sb => ?_⟩
    have hT2 : h''.get? s.heap.objs.size = some { cls := .type "tuple", data := .seq #[v1, v2] } := (sb.2 _ (Nat.ne_of_gt hzl)).trans hT
    have new : ObjOk X.prog X.w (upd H s.heap.objs.size (.tup [x, y])) h'' s.heap.objs.size (.tup [x, y]) :=
      ⟨by show 2 ≤ sizeLine; decide, [v1, v2], .cons ru (.cons ru2 .nil), ⟨_, hT2, rfl, _, rfl⟩⟩
    have I1 : Inv X pins σ (upd H s.heap.objs.size (.tup [x, y])) { s with heap := h'', toks := tk } :=
      I.turnedNew (t' := tk) (ch := [z, TI, TO, i1, i2]) (fun c o hb q => (sb.2 c (fun q' => hb (by simp [q']))).trans (hk c o (fun q' => hb (by simp [q'])) (fun q' => hb (by simp [q'])) (fun q' => hb (by simp [q'])) (fun q' => hb (by simp [q'])) q)) hf (Nat.le_refl _) new
    refine ⟨.ref s.heap.objs.size, _, I1, rfl, ⟨_, x, y, rfl, I.hok.fresh (Nat.le_refl _), rfl, fun l hl => by rw [I.list_inj hl hqx]; exact hx, fun l hl => by rw [I.tuple_inj hl hqy]; exact hy⟩, ⟨z'', ?_, ⟨v1, v2, ?_⟩, ?_, ?_⟩, fun c hcm => ?_⟩
    · exact (sb.2 _ S.TIz).trans (hk _ _ S.TIz S.TITO S.TIi1 S.TIi2 hTI)
    · exact (sb.2 _ S.TOz).trans TO'
    · exact h1'.1.at fun o q => (sb.2 _ S.zi1.symm).trans q
    · exact h2'.1.at fun o q => (sb.2 _ S.zi2.symm).trans q
    · have hlt : c < s.heap.objs.size := by
        have e' : c = z ∨ c = TI ∨ c = TO ∨ c = i1 ∨ c = i2 := by simpa using hcm
        rcases e' with q | q | q | q | q
        · rw [q]; exact hzl
        · rw [q]; exact Heap.lt_size hTI
        · rw [q]; exact Heap.lt_size hTO
        · rw [q]; obtain ⟨_, e1, _⟩ := h1; exact Heap.lt_size e1
        · rw [q]; obtain ⟨_, e2, _⟩ := h2; exact Heap.lt_size e2
      rw [upd_ne (Nat.ne_of_lt hlt)]
      exact (hf c hcm).1
  done := by
    intro X hP hw hK hc i pins s σ H E I hf st hg
    subst hP hw hK
    obtain ⟨hz, hTI, ⟨x0, y0, hTO⟩, h1, h2⟩ := st
    obtain ⟨xs, ys, hqx, hqy, l1, l2⟩ := hg
    obtain ⟨its, rv, p, _⟩ := I.list hqx
    obtain ⟨its2, rv2, p2, _⟩ := I.tuple hqy
    have k1 := rv.length
    have k2 := rv2.length
    have hh : X.A.in1.handled = none := I.ok.hd hc
    have D1 := Draws.list (prog := X.prog) (w := X.w) (A := X.A.in1) hh i1 a ha1 its.toArray
    have D2 := Draws.tuple (prog := X.prog) (w := X.w) (A := X.A.in1) hh i2 b hb2 its2.toArray
    have n1 : i = its.toArray.size := by simp; omega
    have n2 : i = its2.toArray.size := by simp; omega
    exact wpAny_pyNext_zipD2_end S D1 D2 hz hTI hTO ⟨h1, p.isList⟩ ⟨h2, p2⟩ (Nat.le_of_eq n1) (Nat.le_of_eq n2) (.inl n1) fun h' tk hk => ⟨rfl, I.turnedL (t' := tk) (ch := [z, TI, TO, i1, i2]) (fun c o hb q =>
      hk c o (fun q' => hb (by simp [q'])) (fun q' => hb (by simp [q'])) (fun q' => hb (by simp [q'])) (fun q' => hb (by simp [q'])) q) hf⟩
  self := fun A i s Q E st h => wpAny_pyIter_zip st.1 h
def iZipM (K : PySem.W.Frag) (ta : TA) : TI := fun σ H R => ta σ H fun vs H1 => ∃ a b xs ys, vs = [.ref a, .ref b] ∧ SqL K H1 a xs ∧ SqT K H1 b ys ∧ R (ItzM K a b) H1
theorem pi_zipM {X : Cx} {e e2 : Expr} {ta : TA} {p pos tpos : Pos} {elts : List Expr} {kk : Nat} (hg : Gl X "zip") (hm : X.mg "zip" = none) (ha : PA X [e, e2] ta)
    (hs : starEach [e, e2] X.env = (false, eval e X.env) :: starEach [e2] X.env := by rfl) (hpl : (backTo pos (starEach [e2] X.env)).any (·.1) = false := by rfl) :
    PI X (.Tuple elts kk tpos) (.Call (.Name "zip" p) [e, e2] [] pos) (iZipM X.K ta) := by
  refine ⟨fun pins s σ H R I h => ?_⟩
  refine Call_ (ld_blt I hg hm PyProof.Rows.boot_zip (PyProof.Rows.callWith_type1 (thn (ha.run pos pins s σ H _ I h) fun us s1 ⟨vs, H1, I1, r1, q1⟩ => ?_) hs hpl))
  obtain ⟨a, b, xs, ys, ex, hqx, hqy, q⟩ := q1
  subst ex
  cases r1 with
  | cons r rr =>
    cases rr with
    | cons r' rr =>
      cases rr
      cases r
      cases r'
      have fresh5 : ∀ c, c ∈ [s1.heap.objs.size + 4, s1.heap.objs.size + 2, s1.heap.objs.size + 3, s1.heap.objs.size, s1.heap.objs.size + 1] → FpOk X pins H1 c := fun c hcm => by
        have e' : c = s1.heap.objs.size + 4 ∨ c = s1.heap.objs.size + 2 ∨ c = s1.heap.objs.size + 3 ∨ c = s1.heap.objs.size ∨ c = s1.heap.objs.size + 1 := by simpa using hcm
        have hle : s1.heap.objs.size ≤ c := by
          rcases e' with z | z | z | z | z
          · rw [z]; exact Nat.le_add_right _ _
          · rw [z]; exact Nat.le_add_right _ _
          · rw [z]; exact Nat.le_add_right _ _
          · rw [z]; exact Nat.le_refl _
          · rw [z]; exact Nat.le_add_right _ _
        exact I1.fpOk hle (I1.hok.fresh hle)
      obtain ⟨its, rv, p1, _⟩ := I1.list hqx
      obtain ⟨its2, rv2, p2, _⟩ := I1.tuple hqy
      have la : a < s1.heap.objs.size := p1.lt
      have lb : b < s1.heap.objs.size := by obtain ⟨o, ho, _⟩ := id p2; exact Heap.lt_size ho
      refine zip_begins2 (begins_list a its.toArray) (begins_tuple b its2.toArray) p1.isList p2 fun h' hz hTI hTO h1 h2 hsz hk => wpAny_pyIter_zip hz ?_
      have I2 : Inv X pins σ H1 { s1 with heap := h' } := I1.kept (t' := s1.toks) hk
      have S : ZipSep2 (s1.heap.objs.size + 4) (s1.heap.objs.size + 2) (s1.heap.objs.size + 3) s1.heap.objs.size (s1.heap.objs.size + 1) [s1.heap.objs.size, a] [s1.heap.objs.size + 1, b] :=
        zip_sep2 (fp1 := [a]) (fp2 := [b]) (fun c hc => by rw [List.mem_singleton] at hc; rw [hc]; exact la) (fun c hc => by rw [List.mem_singleton] at hc; rw [hc]; exact lb)
      exact ⟨s1.heap.objs.size + 4, [s1.heap.objs.size + 4, s1.heap.objs.size + 2, s1.heap.objs.size + 3, s1.heap.objs.size, s1.heap.objs.size + 1], _, _, H1, rfl, I2, turn_zipM S (Nat.ne_of_lt la) (Nat.ne_of_lt (Nat.lt_succ_of_lt lb)), ⟨hz, hTI, ⟨_, _, hTO⟩, ⟨_, h1, rfl, rfl⟩, ⟨_, h2, rfl, rfl⟩⟩, fresh5, q⟩
/-- a loop over zip of a list and a tuple of one length -/
theorem for_zipM {K : PySem.W.Frag} {a b : Addr} {xs ys : List V} {g : TG} {tb : TS} {D : Ends} {σ : L2.St} {H : Hp} (hl : xs.length = ys.length) (Pv : Nat → L2.St → Hp → Prop) (h0 : Pv 0 σ H) (hq : ∀ i σ H, Pv i σ H → SqL K H a xs ∧ SqT K H b ys)
    (hs : ∀ (i : Nat) (x y : V) (T : Addr) (σ : L2.St) (H : Hp), xs[i]? = some x → ys[i]? = some y → Pv i σ H → H T = none → g (.ref T) σ (upd H T (.tup [x, y])) fun σ2 H2 => tb { D with nx := Pv (i + 1), ct := Pv (i + 1), bk := D.nx } σ2 H2) (hd : ∀ σ H, Pv xs.length σ H → D.nx σ H) :
    ∃ W : Nat → Nat → L2.St → Hp → Prop, (∃ m, W 0 m σ H) ∧ ∀ i m σ H, W i m σ H →
      ((ItzM K a b).stop i H ∧ D.nx σ H) ∨ ((ItzM K a b).go i H ∧ ∃ N : L2.St → Hp → Prop, (∀ σ' H', N σ' H' → ∃ m', m' < m ∧ W (i + 1) m' σ' H') ∧ ∀ v H', (ItzM K a b).yld i H v H' → g v σ H' fun σ2 H2 => tb { D with nx := N, ct := N, bk := D.nx } σ2 H2) := by
  refine ⟨fun i m σ H => m = xs.length - i ∧ i ≤ xs.length ∧ Pv i σ H, ⟨xs.length, rfl, Nat.zero_le _, h0⟩, ?_⟩
  rintro i m σ H ⟨rfl, hi, p⟩
  obtain ⟨qx, qy⟩ := hq i σ H p
  by_cases hlt : i < xs.length
  · have hx : xs[i]? = some xs[i] := List.getElem?_eq_getElem hlt
    have hlt2 : i < ys.length := by omega
    have hy : ys[i]? = some ys[i] := List.getElem?_eq_getElem hlt2
    refine .inr ⟨⟨xs, ys, _, _, qx, qy, hx, hy⟩, Pv (i + 1), fun σ' H' p' => ⟨xs.length - (i + 1), by omega, rfl, hlt, p'⟩, fun v H' y => ?_⟩
    obtain ⟨T, x', y', rfl, hT, rfl, f1, f2⟩ := y
    exact hs i x' y' T σ H (f1 xs qx) (f2 ys qy) p hT
  · have e : i = xs.length := by omega
    subst e
    exact .inl ⟨⟨xs, ys, qx, qy, rfl, hl.symm⟩, hd σ H p⟩
end L2
end
section
set_option Elab.async false
set_option linter.all false
set_option maxRecDepth 100000
set_option maxHeartbeats 4000000
set_option autoImplicit false
namespace Bd
open PySem PySem.Spec PyProof.Rows L2
/-! ## steps taken up one by one: what stands (the last first) -/
inductive Run : List Co01.Ag → List Mx.St → List Co01.Ag → Prop
  | nil (l : List Co01.Ag) : Run l [] l
  | cons {b : Co01.Ag} {ps l0 l' : List Co01.Ag} {x : Mx.St} {r : List Mx.St} : Shape b ps x → Run (b :: l0) r l' → Run (ps.reverse ++ l0) (x :: r) l'
theorem Run.app {l m m' : List Co01.Ag} {s s' : List Mx.St} (h : Run l s m) (h' : Run m s' m') : Run l (s ++ s') m' := by
  induction h with
  | nil => exact h'
  | cons sh _ ih => exact .cons sh (ih h')
theorem run_post : ∀ (a : Co01.Ag) (l : List Co01.Ag), Run l (Mx.post a) (a :: l)
  | .nothing, l => .cons (ps := []) .nothing (.nil _)
  | .pay e, l => .cons (ps := []) (.pay e) (.nil _)
  | .both a b, l => ((run_post a l).app (run_post b _)).app (.cons (ps := [a, b]) (l0 := l) (.both a b) (.nil _))
  | .or a b, l => ((run_post a l).app (run_post b _)).app (.cons (ps := [a, b]) (l0 := l) (.or a b) (.nil _))
  | .else_ a b, l => ((run_post a l).app (run_post b _)).app (.cons (ps := [a, b]) (l0 := l) (.else_ a b) (.nil _))
  | .if_ c a b, l => ((run_post a l).app (run_post b _)).app (.cons (ps := [a, b]) (l0 := l) (.if_ c a b) (.nil _))
  | .at_ k a, l => (run_post a l).app (.cons (ps := [a]) (l0 := l) (.at_ k a) (.nil _))
  | .may k a, l => (run_post a l).app (.cons (ps := [a]) (l0 := l) (.may k a) (.nil _))
  | .give a, l => (run_post a l).app (.cons (ps := [a]) (l0 := l) (.give a) (.nil _))
  | .times e a, l => (run_post a l).app (.cons (ps := [a]) (l0 := l) (.times e a) (.nil _))
  | .halt_ c a, l => (run_post a l).app (.cons (ps := [a]) (l0 := l) (.halt_ c a) (.nil _))
theorem Run.len {l m : List Co01.Ag} {s : List Mx.St} (h : Run l s m) : (m.reverse.map Mx.post).flatten = (l.reverse.map Mx.post).flatten ++ s := by
  induction h with
  | nil => simp
  | @cons b ps l0 l' x r sh _ ih =>
    rw [ih, List.reverse_cons, List.map_append, List.flatten_append, List.map_cons, List.map_nil, List.flatten_cons, List.flatten_nil, List.append_nil, sh.post]
    simp
/-- .. up to a step, from there on -/
def Mid (s : List Mx.St) (a : Co01.Ag) (i : Nat) (l : List Co01.Ag) : Prop := Run [] (s.take i) l ∧ Run l (s.drop i) [a]
theorem mid_start (a : Co01.Ag) : Mid (Mx.post a) a 0 [] := ⟨.nil _, run_post a []⟩
theorem Mid.step {s : List Mx.St} {a : Co01.Ag} {i : Nat} {l : List Co01.Ag} {x : Mx.St} (h : Mid s a i l) (hx : s[i]? = some x) : ∃ b ps l0, l = ps.reverse ++ l0 ∧ Shape b ps x ∧ Mid s a (i + 1) (b :: l0) := by
  obtain ⟨h1, h2⟩ := h
  have hi := (List.getElem?_eq_some_iff.mp hx).1
  have e : s.drop i = x :: s.drop (i + 1) := by
    rw [List.drop_eq_getElem_cons hi]
    congr 1
    exact (List.getElem?_eq_some_iff.mp hx).2
  rw [e] at h2
  cases h2 with
  | @cons b ps l0 _ _ _ sh r =>
    refine ⟨b, ps, l0, rfl, sh, ?_, r⟩
    rw [List.take_add_one, hx]
    exact h1.app (.cons sh (.nil _))
theorem Mid.done {s : List Mx.St} {a : Co01.Ag} {l : List Co01.Ag} (h : Mid s a s.length l) : l = [a] := by
  have h2 := h.2
  rw [List.drop_length] at h2
  cases h2; rfl
theorem Mid.len {s : List Mx.St} {a : Co01.Ag} {i : Nat} {l : List Co01.Ag} (h : Mid s a i l) (hi : i ≤ s.length) : ((l.reverse.map Mx.post).flatten).length = i := by
  have := h.1.len
  rw [this]; simp; omega
theorem shape_count {b : Co01.Ag} {ps : List Co01.Ag} {x : Mx.St} (h : Shape b ps x) : (sB x.w, ps.length) ∈ COUNTS := by
  cases h with
  | nothing => exact (by decide +kernel : (sB (Co01.ascii "nothing"), 0) ∈ COUNTS)
  | pay e => exact (by decide +kernel : (sB (Co01.ascii "pay"), 0) ∈ COUNTS)
  | both a b => exact (by decide +kernel : (sB (Co01.ascii "and"), 2) ∈ COUNTS)
  | or a b => exact (by decide +kernel : (sB (Co01.ascii "or"), 2) ∈ COUNTS)
  | else_ a b => exact (by decide +kernel : (sB (Co01.ascii "else"), 2) ∈ COUNTS)
  | if_ c a b => exact (by decide +kernel : (sB (Co01.ascii "if"), 2) ∈ COUNTS)
  | at_ k a => exact (by decide +kernel : (sB (Co01.ascii "at"), 1) ∈ COUNTS)
  | may k a => exact (by decide +kernel : (sB (Co01.ascii "may"), 1) ∈ COUNTS)
  | give a => exact (by decide +kernel : (sB (Co01.ascii "give"), 1) ∈ COUNTS)
  | times e a => exact (by decide +kernel : (sB (Co01.ascii "times"), 1) ∈ COUNTS)
  | halt_ c a => exact (by decide +kernel : (sB (Co01.ascii "stop"), 1) ∈ COUNTS)
theorem shape_two {b : Co01.Ag} {ps : List Co01.Ag} {x : Mx.St} (h : Shape b ps x) : ps.length ≤ 2 := by
  cases h <;> simp
/-- lists of what waits, at as, of the agreements ts, from place o on -/
inductive WaitsSt (H : Hp) : Nat → List Addr → List Co01.Ag → Prop
  | nil (o : Nat) : WaitsSt H o [] []
  | cons {o : Nat} {r : Addr} {as : List Addr} {t : Co01.Ag} {ts : List Co01.Ag} : WaitAt H r (Mx.waitsAt false o t) → WaitsSt H (o + (Mx.post t).length) as ts → WaitsSt H o (r :: as) (t :: ts)
def lenP (ts : List Co01.Ag) : Nat := ((ts.map Mx.post).flatten).length
theorem lenP_cons (t : Co01.Ag) (ts : List Co01.Ag) : lenP (t :: ts) = (Mx.post t).length + lenP ts := by simp [lenP]
theorem lenP_nil : lenP [] = 0 := rfl
theorem lenP_ge : ∀ ts : List Co01.Ag, ts.length ≤ lenP ts
  | [] => Nat.le_refl _
  | t :: ts => by have := lenP_ge ts; have := Mx.post_pos t; rw [lenP_cons, List.length_cons]; omega
theorem WaitsSt.app {H : Hp} {o : Nat} {as bs : List Addr} {ts us : List Co01.Ag} (h : WaitsSt H o as ts) (h' : WaitsSt H (o + lenP ts) bs us) : WaitsSt H o (as ++ bs) (ts ++ us) := by
  induction h with
  | nil => exact h'
  | cons e _ ih => exact .cons e (ih (by rw [lenP_cons] at h'; rw [Nat.add_assoc]; exact h'))
theorem WaitsSt.length {H : Hp} {o : Nat} {as : List Addr} {ts : List Co01.Ag} (h : WaitsSt H o as ts) : as.length = ts.length := by
  induction h with
  | nil => rfl
  | cons _ _ ih => simp [ih]
theorem WaitsSt.split {H : Hp} : ∀ {o : Nat} {as : List Addr} {ts us : List Co01.Ag}, WaitsSt H o as (ts ++ us) → ∃ b c, as = b ++ c ∧ WaitsSt H o b ts ∧ WaitsSt H (o + lenP ts) c us
  | o, as, [], us, h => ⟨[], as, rfl, .nil _, h⟩
  | o, as, t :: ts, us, h => by
    cases h with
    | cons e h =>
      obtain ⟨b, c, rfl, h1, h2⟩ := WaitsSt.split h
      refine ⟨_ :: b, c, rfl, .cons e h1, ?_⟩
      rw [lenP_cons, ← Nat.add_assoc]; exact h2
theorem WaitAt.keepsB {H H' : Hp} {r : Addr} {ws : List (Nat × Bool)} (k : ∀ b x, H b = some x → (∃ y, x = .tup y) ∨ b = r → H' b = some x) (h : WaitAt H r ws) : WaitAt H' r ws := by
  obtain ⟨as, h1, h2⟩ := h
  exact ⟨as, k _ _ h1 (.inr rfl), h2.keeps fun b x e => k b _ e (.inl ⟨x, rfl⟩)⟩
theorem WaitsSt.keeps {H H' : Hp} {o : Nat} {as : List Addr} {ts : List Co01.Ag} (k : ∀ b x, H b = some x → (∃ y, x = .tup y) ∨ b ∈ as → H' b = some x) (h : WaitsSt H o as ts) : WaitsSt H' o as ts := by
  induction h with
  | nil => exact .nil _
  | cons e _ ih => exact .cons (e.keepsB fun b x q z => k b x q (z.elim .inl fun z => .inr (by simp [z]))) (ih fun b x q z => k b x q (z.elim .inl fun z => .inr (by simp [z])))
theorem waits_few : ∀ (a : Co01.Ag) (b : Bool) (o : Nat), (Mx.waitsAt b o a).length ≤ (Mx.post a).length
  | .nothing, _, _ => by simp [Mx.waitsAt, Mx.post]
  | .pay _, _, _ => by simp [Mx.waitsAt, Mx.post]
  | .both a c, b, o => by have := waits_few a b o; have := waits_few c b (o + (Mx.post a).length); simp [Mx.waitsAt, Mx.post]; omega
  | .or _ _, _, _ => by simp [Mx.waitsAt, Mx.post]; omega
  | .else_ _ _, _, _ => by simp [Mx.waitsAt, Mx.post]; omega
  | .at_ _ _, _, _ => by simp [Mx.waitsAt, Mx.post]
  | .may _ _, _, _ => by simp [Mx.waitsAt, Mx.post]
  | .if_ _ _ _, _, _ => by simp [Mx.waitsAt, Mx.post]
  | .give a, b, o => by have := waits_few a (!b) o; simp [Mx.waitsAt, Mx.post]; omega
  | .times _ a, b, o => by have := waits_few a b o; simp [Mx.waitsAt, Mx.post]; omega
  | .halt_ _ a, b, o => by have := waits_few a b o; simp [Mx.waitsAt, Mx.post]; omega
theorem partsW_few : ∀ (ts : List Co01.Ag) (o : Nat), (partsW o ts).length ≤ lenP ts
  | [], _ => by simp [partsW, lenP]
  | t :: ts, o => by have := waits_few t false o; have := partsW_few ts (o + (Mx.post t).length); rw [lenP_cons]; simp [partsW]; omega
theorem partsW_app : ∀ (ts us : List Co01.Ag) (o : Nat), partsW o (ts ++ us) = partsW o ts ++ partsW (o + lenP ts) us
  | [], _, _ => rfl
  | t :: ts, us, o => by rw [List.cons_append, partsW, partsW, partsW_app ts us, lenP_cons, List.append_assoc, Nat.add_assoc]
section
variable {P : Program} {w : World} {K : PySem.W.Frag} {mg : Str → Option Value} {base : Heap} {f : Addr} {fd : FuncData}
/-! ## waiting_in -/
abbrev sWaitIn : Stmt := top 24
def spWaitIn : Sp := fun vs H Q _ => ∃ (a : Addr) (g : Co01.Ag), vs = [.ref a] ∧ AgAt H a (Mx.post g) ∧ (Mx.post g).length ≤ 900 ∧ ∀ (H' : Hp) (r : Addr), Same H H' → H r = none → WaitAt H' r (Mx.waitsAt false 0 g) → Q (.ref r) H'
theorem scWaitIn : FnScope ["agreement", "stack", "place", "step", "within", "part"] ["agreement"] (defScope sWaitIn) := ⟨rfl, rfl, rfl, by decide +kernel, rfl, by decide +kernel, by decide +kernel⟩
theorem ok_waitIn {f1 f2 : Addr} {fd1 fd2 : FuncData} (F : FnP K "waiting_in" sWaitIn f fd) (gE : mg "enumerate" = none)
    (F1 : FnP K "taken_parts" sTaken f1 fd1) (m1 : mg "taken_parts" = some (.ref f1)) (G1 : FnOk P w K mg base CX0 1 f1 fd1 ["stack", "word"] spTaken)
    (F2 : FnP K "waiting_at" sWaitAt f2 fd2) (m2 : mg "waiting_at" = some (.ref f2)) (G2 : FnOk P w K mg base CX0 2 f2 fd2 ["place", "word", "within"] spWaitAt) :
    FnOk P w K mg base CX0 3 f fd ["agreement"] spWaitIn := by
  have b1 : Binds K fd1 ["stack", "word"] [] := F1.binds fun _ _ _ _ _ _ us hl => match us, hl with | [_, _], _ => rfl
  have b2 : Binds K fd2 ["place", "word", "within"] [] := F2.binds fun _ _ _ _ _ _ us hl => match us, hl with | [_, _, _], _ => rfl
  refine F.ok scWaitIn (fun vs H Q E h => ?_) (fun cdv A outer s H vs Q E hr h => ⟨_, (pss_cons (ps_set (i := 1) scWaitIn.nd rfl (.inl rfl) (pe_lst pa_nil))
    (pss_cons (ps_for PassesOwn.never rfl (pi_enumT rfl gE (pa_cons (pv 0) pa_nil)) (pg_tup rfl (pgs_cons (pg_name (i := 2) scWaitIn.nd rfl (.inl rfl)) (pgs_cons (pg_name (i := 3) scWaitIn.nd rfl (.inl rfl)) pgs_nil)))
      (pss_cons (ps_set (i := 4) scWaitIn.nd rfl (.inl rfl) (pe_lst pa_nil))
      (pss_cons (ps_for PassesOwn.never rfl (pi_list (pe_call (G1.mono (by decide)) hr rfl m1 F1.kp b1 .nil pass0 (pa_cons (pv 1) (pa_cons (pe_ix ix_tup (pv 3) pe_int (fun _ _ => rfl)) pa_nil)))) (pg_name (i := 5) scWaitIn.nd rfl (.inl rfl))
        (pss_one (ps_expr (pe_bm PySem.F.plainAttrs_list PySem.F.slot_list_extend PySem.F.type_list_extend mt_extend (pv 4) (pa_cons (pv 5) pa_nil)))))
      (pss_one (ps_expr (pe_bm PySem.F.plainAttrs_list PySem.F.slot_list_append PySem.F.type_list_append mt_append (pv 1) (pa_cons (pe_call G2 hr rfl m2 F2.kp b2 .nil pass0 (pa_cons (pv 2) (pa_cons (pe_ix ix_tup (pv 3) pe_int (fun _ _ => rfl)) (pa_cons (pv 4) pa_nil)))) pa_nil)))))))
    (pss_one (ps_ret (pe_ix ix_list (pv 1) pe_int (fun _ _ => rfl)))))), ?_⟩)
  · obtain ⟨a, g, rfl, _⟩ := h
    rfl
  · obtain ⟨a, g, rfl, ag, len, q⟩ := h
    obtain ⟨vs, ha, hs⟩ := ag
    refine ⟨by decide, fun st hst => ?_⟩
    have vl := hs.length
    have k0 : Same H (L2.upd H st (.lst [])) := same_new (Same.refl H) hst _
    refine ⟨_, rfl, a, vs, rfl, .inl (.inl (k0 _ _ ha)), ?_⟩
    refine for_enumT (K := K) (a := a) (xs := vs) (fun i σ H1 => ∃ (o2 o3 o4 o5 : Option V) (l : List Co01.Ag) (as : List Addr), σ = [some (.ref a), some (.ref st), o2, o3, o4, o5] ∧ Same H H1 ∧ i ≤ vs.length ∧ Mid (Mx.post g) g i l ∧ H1 st = some (.lst (as.map V.ref)) ∧ WaitsSt H1 0 as l.reverse ∧ (∀ b ∈ as, H b = none ∧ b ≠ st))
      ⟨none, none, none, none, [], [], rfl, k0, Nat.zero_le _, mid_start g, upd_same, .nil _, fun b hb => nomatch hb⟩ (fun i σ H1 h => by obtain ⟨_, _, _, _, _, _, _, k, _⟩ := h; exact .inl (.inl (k _ _ ha))) (fun i y T σ H1 hy h hT => ?_) (fun σ H1 h => ?_)
    · obtain ⟨o2, o3, o4, o5, l, as, rfl, k, hi, mid, hS, ws, fr⟩ := h
      have hi' : i < vs.length := (List.getElem?_eq_some_iff.mp hy).1
      have hx : ∃ x, (Mx.post g)[i]? = some x := ⟨(Mx.post g)[i]'(by omega), List.getElem?_eq_getElem (by omega)⟩
      obtain ⟨x, hx⟩ := hx
      obtain ⟨v, hv, b0, dv, rfl, hb0, hdv⟩ := hs.at_ hx
      rw [hy] at hv
      obtain rfl : y = .ref b0 := Option.some.inj hv
      obtain ⟨b, ps, l0, rfl, sh, mid'⟩ := mid.step hx
      have stT : st ≠ T := fun z => by rw [z, hT] at hS; cases hS
      have nT : ∀ {c : Addr} {u : HO}, H1 c = some u → c ≠ T := fun e z => by rw [z, hT] at e; cases e
      rw [List.reverse_append, List.reverse_reverse] at ws
      obtain ⟨as0, asp, rfl, ws0, wsp⟩ := ws.split
      have hb1 := k _ _ hb0
      -- the pair, its names; within
      refine ⟨T, _, rfl, .inl (.inl upd_same), rfl, _, _, rfl, _, _, rfl, rfl, (by show 0 ≤ sizeLine; decide), fun wi hwi => ?_⟩
      have wiT : T ≠ wi := fun z => by rw [← z, upd_same] at hwi; cases hwi
      have hwi1 : H1 wi = none := by rw [upd_ne wiT.symm] at hwi; exact hwi
      have wist : wi ≠ st := fun z => by rw [z, hS] at hwi1; cases hwi1
      generalize hH2 : L2.upd (L2.upd H1 T (.tup [.int (i : Nat), .ref b0])) wi (.lst []) = H2
      have k12 : Same H1 H2 := by rw [← hH2]; exact same_new (same_new (Same.refl H1) hT _) hwi _
      have hw2 : H2 wi = some (.lst []) := by rw [← hH2]; exact upd_same
      -- taken_parts
      refine ⟨_, rfl, _, rfl, b0, _, _, .str (sB x.w), rfl, rfl, .inl (.inl (k12 _ _ hb1)), rfl, st, sB x.w, ps.length, as0.map V.ref, asp.map V.ref, rfl, shape_count sh, by rw [← List.map_append]; exact k12 _ _ hS, by rw [List.length_map, wsp.length], fun H3 p hp2 hp3 hS3 bt => ?_⟩
      have nP : ∀ {c : Addr} {u : HO}, H2 c = some u → c ≠ p := fun e z => by rw [z, hp2] at e; cases e
      have hw3 : H3 wi = some (.lst []) := bt _ _ hw2 wist
      refine ⟨p, rfl, ⟨asp.map V.ref, .inl (.inl hp3)⟩, ?_⟩
      have frp : ∀ c ∈ asp, H1 c ≠ none ∧ c ≠ st ∧ c ≠ wi ∧ c ≠ p := fun c hc => by
        have h1 := fr c (by simp [hc])
        have : ∃ u, H1 c = some u := by
          clear fr
          obtain ⟨j, hj⟩ := List.getElem?_of_mem hc
          have : ∀ {o : Nat} {as : List Addr} {ts : List Co01.Ag}, WaitsSt H1 o as ts → ∀ c ∈ as, ∃ u, H1 c = some u := by
            intro o as ts h
            induction h with
            | nil => intro c hc; cases hc
            | cons e _ ih =>
              intro c hc
              rcases List.mem_cons.mp hc with rfl | hc
              · obtain ⟨as, h1, _⟩ := e; exact ⟨_, h1⟩
              · exact ih c hc
          exact this wsp c hc
        obtain ⟨u, hu⟩ := this
        exact ⟨(by rw [hu]; simp), h1.2, (fun z => by rw [z, hwi1] at hu; cases hu), nP (k12 _ _ hu)⟩
      have lenAll : lenP (l0.reverse ++ ps) = i := by
        have := mid.len (by omega)
        rw [List.reverse_append, List.reverse_reverse] at this
        exact this
      have lenE : lenP l0.reverse + lenP ps = i := by
        rw [← lenAll]; simp [lenP]
      have few : (partsW (lenP l0.reverse) ps).length ≤ 900 := Nat.le_trans (partsW_few _ _) (by omega)
      refine for_list (K := K) (a := p) (xs := asp.map V.ref) (fun j σ H4 => ∃ (o5 : Option V), σ = [some (.ref a), some (.ref st), some (.int (i : Nat)), some (.ref b0), some (.ref wi), o5] ∧ But wi H3 H4 ∧ WaitAt H4 wi (partsW (lenP l0.reverse) (ps.take j)) ∧ j ≤ asp.length)
        ⟨o5, rfl, fun c u e _ => e, ⟨[], hw3, .nil⟩, Nat.zero_le _⟩ (fun j σ H4 _ h => by obtain ⟨_, _, bw, _⟩ := h; exact .inl (.inl (bw _ _ hp3 (fun z => by rw [z, hw3] at hp3; injection hp3 with hp3; injection hp3 with hp3; have e := congrArg List.length hp3; have := nP hw2; exact this z.symm)))) (fun j y σ H4 hj h => ?_) (fun σ H4 h => ?_)
      · obtain ⟨o5, rfl, bw, ⟨ws4, hw4, tw⟩, hjl⟩ := h
        rw [List.getElem?_map] at hj
        obtain ⟨r, hr', rfl⟩ := Option.map_eq_some_iff.mp hj
        have rm : r ∈ asp := List.mem_of_getElem? hr'
        have hj' := (List.getElem?_eq_some_iff.mp hr').1
        obtain ⟨n1, n2, n3, n4⟩ := frp r rm
        have hl : asp.length = ps.length := wsp.length
        have hjp : j < ps.length := by omega
        have wr : ∃ t, ps[j]? = some t ∧ WaitAt H1 r (Mx.waitsAt false (lenP l0.reverse + lenP (ps.take j)) t) := by
          have : ∀ {o : Nat} {as : List Addr} {ts : List Co01.Ag}, WaitsSt H1 o as ts → ∀ {j : Nat} {r : Addr}, as[j]? = some r → ∃ t, ts[j]? = some t ∧ WaitAt H1 r (Mx.waitsAt false (o + lenP (ts.take j)) t) := by
            intro o as ts h
            induction h with
            | nil => intro j r e; simp at e
            | cons e _ ih =>
              intro j r hr
              cases j with
              | zero => simp at hr; subst hr; exact ⟨_, rfl, by simpa [lenP] using e⟩
              | succ j =>
                obtain ⟨t, h1, h2⟩ := ih (by simpa using hr)
                refine ⟨t, by simpa using h1, ?_⟩
                rw [List.take_succ_cons, lenP_cons, ← Nat.add_assoc]
                exact h2
          have h := this wsp hr'
          rw [Nat.zero_add] at h
          exact h
        obtain ⟨t, ht, rs, hr1, tr⟩ := wr
        have hr4 := bw _ _ (bt _ _ (k12 _ _ hr1) n2) n3
        have tk14 : Tk H1 H4 := fun c u e => bw _ _ (bt _ _ (k12 _ _ e) (fun z => by rw [z, hS] at e; cases e)) (fun z => by rw [z, hwi1] at e; cases e)
        have e1 : partsW (lenP l0.reverse) (ps.take (j + 1)) = partsW (lenP l0.reverse) (ps.take j) ++ Mx.waitsAt false (lenP l0.reverse + lenP (ps.take j)) t := by
          rw [List.take_add_one, ht, Option.toList_some, partsW_app]
          simp [partsW]
        have sz : ws4.length + rs.length ≤ 900 := by
          have l1 := tw.length
          have l2 := tr.length
          rw [List.length_map] at l1 l2
          have l3 := partsW_few (ps.take (j + 1)) (lenP l0.reverse)
          have l4 : lenP (ps.take (j + 1)) ≤ lenP ps := by
            have : lenP ps = lenP (ps.take (j + 1)) + lenP (ps.drop (j + 1)) := by
              have h : lenP (ps.take (j + 1) ++ ps.drop (j + 1)) = lenP (ps.take (j + 1)) + lenP (ps.drop (j + 1)) := by unfold lenP; rw [List.map_append, List.flatten_append, List.length_append]
              rwa [List.take_append_drop] at h
            omega
          rw [e1, List.length_append] at l3
          omega
        refine ⟨_, rfl, .inl ⟨rfl, _, .inl (.inl hw4)⟩, _, rfl, wi, r, _, _, rfl, rfl, hw4, hr4, ?_, _, rfl, bw.upd _, ⟨ws4 ++ rs, ?_, ?_⟩, hj'⟩
        · rw [List.length_map, List.length_map]
          exact Nat.le_of_lt (small1000 (by omega))
        · rw [upd_same, List.map_append]
        · rw [e1, List.map_append]
          have tk5 : Tk H4 (L2.upd H4 wi (.lst (ws4.map V.ref ++ rs.map V.ref))) := fun c u e => by rw [upd_ne (fun z => by rw [z, hw4] at e; cases e)]; exact e
          exact (tw.keeps tk5).app ((tr.keeps tk14).keeps tk5)
      · obtain ⟨o5, rfl, bw, wA, _⟩ := h
        rw [List.length_map, List.take_of_length_le (by rw [wsp.length]; exact Nat.le_refl _)] at wA
        have k14 : ∀ c u, H1 c = some u → c ≠ st → c ≠ wi → H4 c = some u := fun c u e n1 n2 => bw _ _ (bt _ _ (k12 _ _ e) n1) n2
        have hS4 : H4 st = some (.lst (as0.map V.ref)) := bw _ _ hS3 (fun z => wist z.symm)
        have hb4 := k14 _ _ hb1 (fun z => by rw [z, hS] at hb1; cases hb1) (fun z => by rw [z, hwi1] at hb1; cases hb1)
        have kH4 : Same H H4 := fun c u e => k14 _ _ (k _ _ e) (fun z => by rw [z, hst] at e; cases e) (fun z => by have := k _ _ e; rw [z, hwi1] at this; cases this)
        refine ⟨_, rfl, .inl ⟨rfl, _, .inl (.inl hS4)⟩, _, rfl, _, rfl, b0, _, _, .str (sB x.w), rfl, rfl, .inl (.inl hb4), rfl, _, rfl, i, lenP l0.reverse, wi, b, ps, x, rfl, sh, wA, by omega, ?_, fun H5 r k5 rf wr => ?_⟩
        · have := sh.post
          rw [this, List.length_append, List.length_singleton]
          show i + 1 = lenP l0.reverse + (lenP ps + 1)
          omega
        · have hS5 := k5 _ _ hS4
          obtain ⟨rs, hr5, tr⟩ := wr
          have rfr : H r = none ∧ r ≠ st := by
            rcases rf with rfl | rf
            · exact ⟨k.free hwi1, wist⟩
            · exact ⟨kH4.free rf, fun z => by rw [z, hS4] at rf; cases rf⟩
          have rst := rfr.2
          have kk : Same H (L2.upd H5 st (.lst (as0.map V.ref ++ [.ref r]))) := fun c u e => by
            rw [upd_ne (fun z => by rw [z, hst] at e; cases e)]; exact k5 _ _ (kH4 _ _ e)
          have tk5 : Tk H5 (L2.upd H5 st (.lst (as0.map V.ref ++ [.ref r]))) := fun c u e => by rw [upd_ne (fun z => by rw [z, hS5] at e; cases e)]; exact e
          refine ⟨st, _, _, rfl, rfl, hS5, ?_, some (.int (i : Nat)), some (.ref b0), some (.ref wi), o5, b :: l0, as0 ++ [r], rfl, kk, hi', mid', ?_, ?_, ?_⟩
          · rw [List.length_map, ws0.length]
            refine small1000 ?_
            have := lenP_ge l0.reverse
            omega
          · rw [upd_same, List.map_append]; rfl
          · rw [List.reverse_cons]
            refine (WaitsSt.keeps ?_ ws0).app (.cons ⟨rs, ?_, by rw [Nat.zero_add]; exact tr.keeps tk5⟩ (.nil _))
            · intro c u e z
              rcases z with ⟨y, rfl⟩ | z
              · exact tk5 _ _ (k5 _ _ (k14 _ _ e (fun z => by rw [z, hS] at e; cases e) (fun z => by rw [z, hwi1] at e; cases e)))
              · have := fr c (by simp [z])
                rw [upd_ne this.2]
                exact k5 _ _ (k14 _ _ e this.2 (fun z => by rw [z, hwi1] at e; cases e))
            · rw [upd_ne rst]; exact hr5
          · intro c hc
            rcases List.mem_append.mp hc with hc | hc
            · exact fr c (by simp [hc])
            · rw [List.mem_singleton] at hc
              subst hc
              exact rfr
    · obtain ⟨o2, o3, o4, o5, l, as, rfl, k, hi, mid, hS, ws, fr⟩ := h
      rw [vl] at mid
      obtain rfl := mid.done
      cases ws with
      | cons e h =>
        cases h
        rename_i r
        obtain ⟨f1, f2⟩ := fr r (by simp)
        exact ⟨_, rfl, st, _, _, .ref r, rfl, rfl, .inl (.inl hS), rfl, q H1 r k f1 e⟩
end
end Bd
end
section
set_option Elab.async false
set_option linter.all false
set_option maxRecDepth 100000
set_option maxHeartbeats 4000000
set_option autoImplicit false
namespace Bd
open PySem PySem.Spec PyProof.Rows L2
/-! ## all but lists stays -/
def Nl (H H' : Hp) : Prop := ∀ b x, H b = some x → (∀ l, x ≠ .lst l) → H' b = some x
theorem Same.nl {H H' : Hp} (k : Same H H') : Nl H H' := fun b x e _ => k b x e
theorem Nl.trans {A B C : Hp} (h : Nl A B) (k : Nl B C) : Nl A C := fun b x e n => k b x (h b x e n) n
theorem But.nl {st : Addr} {H H' : Hp} (k : But st H H') {xs : List V} (e : H st = some (.lst xs)) : Nl H H' := fun b x q n => k b x q (fun z => by rw [z, e] at q; exact n xs (Option.some.inj q).symm)
theorem Nl.tk {H H' : Hp} (k : Nl H H') : Tk H H' := fun b x e => k b _ e (fun l z => by cases z)
theorem nl_upd {H : Hp} {st : Addr} {xs : List V} (e : H st = some (.lst xs)) (o : HO) : Nl H (L2.upd H st o) := fun b x q n => by
  rw [upd_ne (fun z => by rw [z, e] at q; exact n xs (Option.some.inj q).symm)]; exact q
theorem OutAt.nl {C : Addr} {H H' : Hp} (k : Nl H H') {o w l : Addr} {p : Int} (h : OutAt C H o w l p) : OutAt C H' o w l p := by
  obtain ⟨dx, h⟩ := h
  exact ⟨dx, k _ _ h (fun l z => by cases z)⟩
theorem Outs.nl {C : Addr} {H H' : Hp} {t : Nat} {v : Co01.Seen} (k : Nl H H') {os : List Addr} {ts : List Co01.Ag} (h : Outs C H t v os ts) : Outs C H' t v os ts := by
  induction h with
  | nil => exact .nil
  | cons h1 h2 h3 _ ih => exact .cons (h1.nl k) (h2.keeps k.tk) (h3.keeps k.tk) ih
theorem Outs.app {C : Addr} {H : Hp} {t : Nat} {v : Co01.Seen} {os os' : List Addr} {ts ts' : List Co01.Ag} (h : Outs C H t v os ts) (h' : Outs C H t v os' ts') : Outs C H t v (os ++ os') (ts ++ ts') := by
  induction h with
  | nil => exact h'
  | cons h1 h2 h3 _ ih => exact .cons h1 h2 h3 ih
theorem Outs.length {C : Addr} {H : Hp} {t : Nat} {v : Co01.Seen} {os : List Addr} {ts : List Co01.Ag} (h : Outs C H t v os ts) : os.length = ts.length := by
  induction h with
  | nil => rfl
  | cons _ _ _ _ ih => simp [ih]
theorem Outs.split {C : Addr} {H : Hp} {t : Nat} {v : Co01.Seen} : ∀ {os : List Addr} {ts us : List Co01.Ag}, Outs C H t v os (ts ++ us) → ∃ a b, os = a ++ b ∧ Outs C H t v a ts ∧ Outs C H t v b us
  | os, [], us, h => ⟨[], os, rfl, .nil, h⟩
  | os, t :: ts, us, h => by
    cases h with
    | cons h1 h2 h3 h4 =>
      obtain ⟨a, b, rfl, e1, e2⟩ := Outs.split h4
      exact ⟨_ :: a, b, rfl, .cons h1 h2 h3 e1, e2⟩
theorem SeenAt.nl {H H' : Hp} (k : Nl H H') {d : Addr} {v : Co01.Seen} {ns : List Co01.Bytes} (h : SeenAt H d v ns) : SeenAt H' d v ns := by
  obtain ⟨kvs, h1, h2⟩ := h
  exact ⟨kvs, k _ _ h1 (fun l z => by cases z), h2⟩
/-! ## what a day asks of an agreement, of names, of what is observed -/
/-- names are small letters -/
def Plain (ns : List Co01.Bytes) : Prop := ∀ b ∈ ns, ∀ c ∈ b, Co01.small c = true
theorem plain_ok {ns : List Co01.Bytes} (h : Plain ns) {b : Co01.Bytes} (hb : b ∈ ns) : PyData.strOk (sB b) = true := by
  unfold PyData.strOk
  rw [Array.all_eq_true']
  intro c hc
  have hc' : c ∈ b := by simpa [sB] using hc
  have := h b hb c hc'
  simp [Co01.small] at this
  simp; omega
theorem word_post : ∀ a : Co01.Ag, ∀ x ∈ Mx.post a, x.w ∈ Mx.WORDSW := by
  have one : ∀ {z : String} {d : Mx.Det}, Co01.ascii z ∈ Mx.WORDSW → ∀ x ∈ [Mx.st z d], x.w ∈ Mx.WORDSW := fun h x hx => by
    rw [List.mem_singleton] at hx; subst hx; exact h
  intro a
  induction a with
  | nothing => exact one (by decide +kernel)
  | pay e => exact one (by decide +kernel)
  | both a b iha ihb => exact fun x hx => (List.mem_append.mp hx).elim (fun h => (List.mem_append.mp h).elim (iha x) (ihb x)) (one (by decide +kernel) x)
  | or a b iha ihb => exact fun x hx => (List.mem_append.mp hx).elim (fun h => (List.mem_append.mp h).elim (iha x) (ihb x)) (one (by decide +kernel) x)
  | else_ a b iha ihb => exact fun x hx => (List.mem_append.mp hx).elim (fun h => (List.mem_append.mp h).elim (iha x) (ihb x)) (one (by decide +kernel) x)
  | if_ c a b iha ihb => exact fun x hx => (List.mem_append.mp hx).elim (fun h => (List.mem_append.mp h).elim (iha x) (ihb x)) (one (by decide +kernel) x)
  | at_ k a ih => exact fun x hx => (List.mem_append.mp hx).elim (ih x) (one (by decide +kernel) x)
  | may k a ih => exact fun x hx => (List.mem_append.mp hx).elim (ih x) (one (by decide +kernel) x)
  | give a ih => exact fun x hx => (List.mem_append.mp hx).elim (ih x) (one (by decide +kernel) x)
  | times e a ih => exact fun x hx => (List.mem_append.mp hx).elim (ih x) (one (by decide +kernel) x)
  | halt_ c a ih => exact fun x hx => (List.mem_append.mp hx).elim (ih x) (one (by decide +kernel) x)
theorem okX_of {ns : List Co01.Bytes} (h : Plain ns) {x : Mx.XS} (hx : Mx.xFit ns x) : okX x := by
  cases x with
  | name b => exact plain_ok h hx
  | _ => trivial
theorem okS_of {ns : List Co01.Bytes} (h : Plain ns) {a : Co01.Ag} (hf : Mx.Fit ns a) : ∀ x ∈ Mx.post a, okS x := fun x hx => by
  refine ⟨(by decide +kernel : ∀ w ∈ Mx.WORDSW, PyData.strOk (sB w) = true) _ (word_post a x hx), ?_⟩
  have k := hf x hx
  obtain ⟨w, d⟩ := x
  cases d with
  | none => trivial
  | num k => trivial
  | exp e => exact fun y hy => okX_of h (k.1.1 y hy)
  | cond c => exact fun y hy => okX_of h (k.1 y hy)
def wtD : Mx.Det → Nat
  | .exp e => Mx.wt e | .cond c => Mx.wtC c | _ => 0
def wtP (l : List Mx.St) : Nat := (l.map fun x => wtD x.d).sum
theorem wtP_app (a b : List Mx.St) : wtP (a ++ b) = wtP a + wtP b := by simp [wtP]
theorem wtP_post : ∀ a : Co01.Ag, wtP (Mx.post a) = Mx.wtA a
  | .nothing => rfl
  | .pay e => by simp [Mx.post, wtP, wtD, Mx.wtA]
  | .both a b => by rw [Mx.post, wtP_app, wtP_app, wtP_post a, wtP_post b]; rfl
  | .or a b => by rw [Mx.post, wtP_app, wtP_app, wtP_post a, wtP_post b]; rfl
  | .else_ a b => by rw [Mx.post, wtP_app, wtP_app, wtP_post a, wtP_post b]; rfl
  | .at_ k a => by rw [Mx.post, wtP_app, wtP_post a]; rfl
  | .may k a => by rw [Mx.post, wtP_app, wtP_post a]; rfl
  | .if_ c a b => by rw [Mx.post, wtP_app, wtP_app, wtP_post a, wtP_post b]; show _ + _ + (Mx.wtC c + 0) = Mx.wtC c + _ + _; omega
  | .give a => by rw [Mx.post, wtP_app, wtP_post a]; rfl
  | .times e a => by rw [Mx.post, wtP_app, wtP_post a]; show _ + (Mx.wt e + 0) = Mx.wt e + _; omega
  | .halt_ c a => by rw [Mx.post, wtP_app, wtP_post a]; show _ + (Mx.wtC c + 0) = Mx.wtC c + _; omega
/-- all is small -/
structure GOk (ns : List Co01.Bytes) (g : Co01.Ag) : Prop where
  plain : Plain ns
  fit : Mx.Fit ns g
  len : (Mx.post g).length ≤ 200
  wt : Mx.wtA g ≤ 10000
/-- a part of it too -/
theorem GOk.part {ns : List Co01.Bytes} {g b : Co01.Ag} (h : GOk ns g) {pre suf : List Mx.St} (e : Mx.post g = pre ++ Mx.post b ++ suf) : GOk ns b where
  plain := h.plain
  fit := fun x hx => h.fit x (by rw [e]; simp [hx])
  len := by have := h.len; rw [e] at this; simp at this; omega
  wt := by
    have := h.wt
    rw [← wtP_post, e, wtP_app, wtP_app, wtP_post] at this; omega
theorem GOk.run {ns : List Co01.Bytes} {g : Co01.Ag} (h : GOk ns g) {t : Nat} {v : Co01.Seen} (hv : Mx.Small v) : GOk ns (Co01.run t v g).1 where
  plain := h.plain
  fit := (Mx.fit_run hv h.fit).1
  len := Nat.le_trans (Mx.fit_run hv h.fit).2 h.len
  wt := Nat.le_trans (Mx.run_size hv g).1 h.wt
theorem GOk.chosen {ns : List Co01.Bytes} {g : Co01.Ag} (h : GOk ns g) (w : Bool) (i : Nat) : GOk ns (Mx.chosen w i g) where
  plain := h.plain
  fit := (Mx.fit_chosen w i h.fit).1
  len := Nat.le_trans (Mx.fit_chosen w i h.fit).2 h.len
  wt := Nat.le_trans (Mx.chosen_size w g i) h.wt
theorem GOk.fit' {ns : List Co01.Bytes} {b : Co01.Ag} (h : GOk ns b) {t : Nat} {v : Co01.Seen} (hv : Mx.Small v) : Fit t v b :=
  ⟨okS_of h.plain (h.run hv).fit, Nat.le_trans (h.run hv).len (by omega)⟩
theorem SeenAt.sub {H : Hp} {d : Addr} {v : Co01.Seen} {ns ms : List Co01.Bytes} (h : SeenAt H d v ns) (hs : ∀ b ∈ ms, b ∈ ns) : SeenAt H d v ms := by
  obtain ⟨kvs, h1, h2⟩ := h
  exact ⟨kvs, h1, fun b hb => h2 b (hs b hb)⟩
theorem nms_sub {ns : List Co01.Bytes} {s : List Mx.XS} (h : ∀ x ∈ s, Mx.xFit ns x) : ∀ b ∈ nmsX s, b ∈ ns := fun b hb => by
  obtain ⟨x, hx, e⟩ := List.mem_filterMap.mp hb
  cases x with
  | name c => injection e with e; subst e; exact h _ hx
  | _ => cases e
theorem wtS_postC : ∀ c : Co01.Cond, Mx.wtS (Mx.postC c) = Mx.wtC c
  | .less a b => by rw [Mx.postC, Mx.wtS_app, Mx.wtS_app, Mx.wtS_postE, Mx.wtS_postE]; rfl
  | .same a b => by rw [Mx.postC, Mx.wtS_app, Mx.wtS_app, Mx.wtS_postE, Mx.wtS_postE]; rfl
  | .more a b => by rw [Mx.postC, Mx.wtS_app, Mx.wtS_app, Mx.wtS_postE, Mx.wtS_postE]; rfl
  | .not a => by rw [Mx.postC, Mx.wtS_app, wtS_postC a]; rfl
  | .and a b => by rw [Mx.postC, Mx.wtS_app, Mx.wtS_app, wtS_postC a, wtS_postC b]; rfl
  | .or a b => by rw [Mx.postC, Mx.wtS_app, Mx.wtS_app, wtS_postC a, wtS_postC b]; rfl
theorem wtD_le {g : Co01.Ag} {x : Mx.St} (hx : x ∈ Mx.post g) : wtD x.d ≤ Mx.wtA g := by
  rw [← wtP_post]
  obtain ⟨p, s, e⟩ := List.append_of_mem hx
  rw [e, wtP_app]
  have : wtP (x :: s) = wtD x.d + wtP s := by simp [wtP]
  omega
theorem GOk.asks {ns : List Co01.Bytes} {g : Co01.Ag} (h : GOk ns g) {H : Hp} {d : Addr} {v : Co01.Seen} (hd : SeenAt H d v ns) {x : Mx.St} (hx : x ∈ Mx.post g) : Asks H d v x.d := by
  have k := h.fit x hx
  have kw := Nat.le_trans (wtD_le hx) h.wt
  obtain ⟨w, dt⟩ := x
  cases dt with
  | none => trivial
  | num k => trivial
  | exp e => exact ⟨hd.sub (nms_sub k.1.1), by rw [Mx.wtS_postE]; exact Nat.lt_of_le_of_lt kw (by omega), Nat.le_trans k.1.2.1 (by omega)⟩
  | cond c => exact ⟨hd.sub (nms_sub k.1), by rw [wtS_postC]; exact Nat.lt_of_le_of_lt kw (by omega), Nat.le_trans k.2.1 (by omega)⟩
theorem log2_le {z k : Nat} (h : z < 2 ^ k) : z.log2 ≤ k := by
  by_cases c : z = 0
  · subst c; exact Nat.zero_le _
  · have := Mx.log2_lt c h; omega
theorem GOk.bits {ns : List Co01.Bytes} {e : Co01.Exp} {b : Co01.Ag} (h : GOk ns (.times e b)) {t : Nat} {v : Co01.Seen} (hv : Mx.Small v) : (Co01.ev v e).natAbs.log2 + (Co01.run t v b).2.natAbs.log2 < 1000000 := by
  have h1 := log2_le (Mx.ev_lt hv e)
  have h2 := log2_le (Mx.run_size (t := t) hv b).2
  have h3 : Mx.wt e + Mx.wtA b ≤ 10000 := h.wt
  omega
/-- a tree that stands in the midst is a part -/
theorem Mid.part {g b : Co01.Ag} {i : Nat} {l : List Co01.Ag} (h : Mid (Mx.post g) g i l) (hb : b ∈ l) : ∃ pre suf, Mx.post g = pre ++ Mx.post b ++ suf := by
  have h1 := h.1.len
  simp at h1
  obtain ⟨p, s, e⟩ := List.append_of_mem hb
  refine ⟨(s.reverse.map Mx.post).flatten, (p.reverse.map Mx.post).flatten ++ (Mx.post g).drop i, ?_⟩
  have : (Mx.post g).take i = (s.reverse.map Mx.post).flatten ++ Mx.post b ++ (p.reverse.map Mx.post).flatten := by
    rw [← h1, e]; simp
  conv => lhs; rw [← List.take_append_drop i (Mx.post g), this]
  simp
section
variable {P : Program} {w : World} {K : PySem.W.Frag} {mg : Str → Option Value} {base : Heap} {f : Addr} {fd : FuncData}
/-! ## gone_through -/
abbrev sGone : Stmt := top 19
def spGone (C : Addr) : Sp := fun vs H Q _ => ∃ (a d : Addr) (t : Nat) (v : Co01.Seen) (ns : List Co01.Bytes) (g : Co01.Ag), vs = [.ref a, .int t, .ref d] ∧ AgAt H a (Mx.post g) ∧ SeenAt H d v ns ∧ Mx.Small v ∧ GOk ns g ∧
  ∀ (H' : Hp) (r : Addr), Same H H' → PairAt H' r (Mx.post (Co01.run t v g).1) (Co01.run t v g).2 → Q (.ref r) H'
theorem scGone : FnScope ["agreement", "day", "seen", "stack", "step", "parts", "whole", "left", "paid", "part"] ["agreement", "day", "seen"] (defScope sGone) := ⟨rfl, rfl, rfl, by decide +kernel, rfl, by decide +kernel, by decide +kernel⟩
theorem ok_gone {C fI f1 f2 f3 : Addr} {fdI fd1 fd2 fd3 : FuncData} (F : FnP K "gone_through" sGone f fd) (T : OutTxt K C) (gC : mg "Outcome" = some (.ref C)) (M : Mk K C fI)
    (FI : L2.Fun K "__init__" "Outcome.__init__" sOutI fI fdI) (GI : FnOk P w K mg base CX0 1 fI fdI ["self", "whole", "left", "paid"] (spOutI C))
    (F1 : FnP K "taken_parts" sTaken f1 fd1) (m1 : mg "taken_parts" = some (.ref f1)) (G1 : FnOk P w K mg base CX0 1 f1 fd1 ["stack", "word"] spTaken)
    (F2 : FnP K "joined" sJoin f2 fd2) (m2 : mg "joined" = some (.ref f2)) (G2 : FnOk P w K mg base CX0 1 f2 fd2 ["parts", "step"] spJoin)
    (F3 : FnP K "step_outcome" sStepO f3 fd3) (m3 : mg "step_outcome" = some (.ref f3)) (G3 : FnOk P w K mg base CX0 4 f3 fd3 ["step", "parts", "whole", "day", "seen"] (spStepO C)) :
    FnOk P w K mg base CX0 5 f fd ["agreement", "day", "seen"] (spGone C) := by
  have bI : Binds K fdI ["self", "whole", "left", "paid"] [] := FI.binds fun _ _ _ _ _ _ us hl => match us, hl with | [_, _, _, _], _ => rfl
  have b1 : Binds K fd1 ["stack", "word"] [] := F1.binds fun _ _ _ _ _ _ us hl => match us, hl with | [_, _], _ => rfl
  have b2 : Binds K fd2 ["parts", "step"] [] := F2.binds fun _ _ _ _ _ _ us hl => match us, hl with | [_, _], _ => rfl
  have b3 : Binds K fd3 ["step", "parts", "whole", "day", "seen"] [] := F3.binds fun _ _ _ _ _ _ us hl => match us, hl with | [_, _, _, _, _], _ => rfl
  refine F.ok scGone (fun vs H Q E h => ?_) (fun cdv A outer s H vs Q E hr h => ⟨_, (pss_cons (ps_set (i := 3) scGone.nd rfl (.inl rfl) (pe_lst pa_nil))
    (pss_cons (ps_for PassesOwn.never rfl (pi_tup (pv 0)) (pg_name (i := 4) scGone.nd rfl (.inl rfl))
      (pss_cons (ps_set (i := 5) scGone.nd rfl (.inl rfl) (pe_call (G1.mono (by decide)) hr rfl m1 F1.kp b1 .nil pass0 (pa_cons (pv 3) (pa_cons (pe_ix ix_tup (pv 4) pe_int (fun _ _ => rfl)) pa_nil))))
      (pss_cons (ps_set (i := 6) scGone.nd rfl (.inl rfl) (pe_call (G2.mono (by decide)) hr rfl m2 F2.kp b2 .nil pass0 (pa_cons (pe_lc (own := [("part", 9)]) (g := gName 9) (tt := tYes) (te := tFld K (tVar 9) "whole") rfl scGone.nd (pi_list (pv 5)) (blkOk_by (N := ["agreement", "day", "seen", "stack", "step", "parts", "whole", "left", "paid", "part"]) (sc := defScope sGone) (by decide +kernel))
          (fun _ _ _ _ _ => pg_name (i := 9) scGone.nd rfl (.inl rfl)) (fun _ _ _ _ _ => pts_nil) (fun _ _ _ _ _ => pe_fld (pv 9) rfl)) (pa_cons (pv 4) pa_nil))))
      (pss_cons (ps_asg (pe_call G3 hr rfl m3 F3.kp b3 .nil pass0 (pa_cons (pv 4) (pa_cons (pv 5) (pa_cons (pv 6) (pa_cons (pv 1) (pa_cons (pv 2) pa_nil)))))) (pg_tup rfl (pgs_cons (pg_name (i := 7) scGone.nd rfl (.inl rfl)) (pgs_cons (pg_name (i := 8) scGone.nd rfl (.inl rfl)) pgs_nil))))
      (pss_one (ps_expr (pe_bm PySem.F.plainAttrs_list PySem.F.slot_list_append PySem.F.type_list_append mt_append (pv 3) (pa_cons (pe_make M (GI.mono (by decide)) hr rfl gC bI .nil pass0 (pa_cons (pv 6) (pa_cons (pv 7) (pa_cons (pv 8) pa_nil)))) pa_nil))))))))
    (pss_one (ps_ret (pe_tup (pa_cons (pe_fld (pe_ix ix_list (pv 3) pe_int (fun _ _ => rfl)) rfl) (pa_cons (pe_fld (pe_ix ix_list (pv 3) pe_int (fun _ _ => rfl)) rfl) pa_nil))))))), ?_⟩)
  · obtain ⟨a, d, t, v, ns, g, rfl, _⟩ := h
    rfl
  · obtain ⟨a, d, t, v, ns, g, rfl, ag, hd, sm, ok, q⟩ := h
    obtain ⟨vs, ha, hs⟩ := ag
    have vl := hs.length
    have glen := ok.len
    refine ⟨by decide, fun st hst => ?_⟩
    have k0 : Same H (L2.upd H st (.lst [])) := same_new (Same.refl H) hst _
    refine ⟨_, rfl, a, rfl, ⟨vs, .inl (.inl (k0 _ _ ha))⟩, for_tup (K := K) (a := a) (xs := vs) (fun i σ H1 => ∃ (o4 o5 o6 o7 o8 : Option V) (l : List Co01.Ag) (os : List Addr), σ = [some (.ref a), some (.int t), some (.ref d), some (.ref st), o4, o5, o6, o7, o8, none] ∧ Same H H1 ∧ Mid (Mx.post g) g i l ∧ H1 st = some (.lst (os.map V.ref)) ∧ Outs C H1 t v os l.reverse)
      ⟨none, none, none, none, none, [], [], rfl, k0, mid_start g, upd_same, .nil⟩ (fun i σ H1 _ h => by obtain ⟨_, _, _, _, _, _, _, _, k, _⟩ := h; exact .inl (.inl (k _ _ ha))) (fun i y σ H1 hy h => ?_) (fun σ H1 h => ?_)⟩
    · obtain ⟨o4, o5, o6, o7, o8, l, os, rfl, k, mid, hS, ou⟩ := h
      have hi' : i < vs.length := (List.getElem?_eq_some_iff.mp hy).1
      obtain ⟨x, hx⟩ : ∃ x, (Mx.post g)[i]? = some x := ⟨(Mx.post g)[i]'(by omega), List.getElem?_eq_getElem (by omega)⟩
      obtain ⟨u, hu, b0, dv, rfl, hb0, hdv⟩ := hs.at_ hx
      rw [hy] at hu
      obtain rfl : y = .ref b0 := Option.some.inj hu
      obtain ⟨b, ps, l0, rfl, sh, mid'⟩ := mid.step hx
      rw [List.reverse_append, List.reverse_reverse] at ou
      obtain ⟨os0, osp, rfl, ou0, oup⟩ := ou.split
      have hb1 := k _ _ hb0
      -- the whole and its parts are small
      obtain ⟨pre, suf, eb⟩ := mid'.part (b := b) (by simp)
      have okb : GOk ns b := ok.part eb
      have okp : ∀ c ∈ ps, GOk ns c := fun c hc => by
        obtain ⟨pre, suf, ec⟩ := mid.part (b := c) (by simp [hc])
        exact ok.part ec
      have lb : (Mx.post b).length ≤ 200 := okb.len
      -- taken_parts
      refine ⟨_, rfl, _, rfl, b0, _, _, .str (sB x.w), rfl, rfl, .inl (.inl hb1), rfl, st, sB x.w, ps.length, os0.map V.ref, osp.map V.ref, rfl, shape_count sh, by rw [← List.map_append]; exact hS, by rw [List.length_map, oup.length], fun H2 p hp1 hp2 hS2 bt => ?_⟩
      have n12 : Nl H1 H2 := bt.nl hS
      have stp : st ≠ p := fun z => by rw [z, hp1] at hS; cases hS
      have oup2 := oup.nl n12
      have ou02 := ou0.nl n12
      have kH2 : Same H H2 := fun c u e => bt _ _ (k _ _ e) (fun z => by rw [z, hst] at e; cases e)
      have hb2 := kH2 _ _ hb0
      -- the parts as they were
      refine ⟨_, rfl, p, rfl, ⟨osp.map V.ref, .inl (.inl hp2)⟩, fun D hD => ?_⟩
      have k2D : Same H2 (L2.upd H2 D (.lst [])) := same_new (Same.refl H2) hD _
      obtain ⟨ws, xss, hws, tws, hxs⟩ : ∃ (ws : List Addr) (xss : List (List V)), ws.length = osp.length ∧ Tups H2 ws xss ∧ (∀ (j : Nat) (o : Addr), osp[j]? = some o → ∃ w l p, ws[j]? = some w ∧ OutAt C H2 o w l p) ∧ StepsAt H2 xss.flatten (ps.map Mx.post).flatten := by
        have : ∀ {os : List Addr} {ts : List Co01.Ag}, Outs C H2 t v os ts → ∃ (ws : List Addr) (xss : List (List V)), ws.length = os.length ∧ Tups H2 ws xss ∧ (∀ (j : Nat) (o : Addr), os[j]? = some o → ∃ w l p, ws[j]? = some w ∧ OutAt C H2 o w l p) ∧ StepsAt H2 xss.flatten (ts.map Mx.post).flatten := by
          intro os ts h
          induction h with
          | nil => exact ⟨[], [], rfl, .nil, fun j o e => by simp at e, .nil⟩
          | cons h1 h2 h3 _ ih =>
            obtain ⟨ws, xss, e1, e2, e3, e4⟩ := ih
            obtain ⟨us, hus, hst⟩ := h2
            refine ⟨_ :: ws, us :: xss, by simp [e1], .cons hus e2, fun j o e => ?_, ?_⟩
            · cases j with
              | zero => simp at e; subst e; exact ⟨_, _, _, rfl, h1⟩
              | succ j => obtain ⟨w, l, p, a1, a2⟩ := e3 j o (by simpa using e); exact ⟨w, l, p, by simpa using a1, a2⟩
            · rw [List.flatten_cons, List.map_cons, List.flatten_cons]; exact hst.app e4
        exact this oup2
      obtain ⟨hwo, hxs⟩ := hxs
      have lx : xss.flatten.length + 1 = (Mx.post b).length := by
        rw [hxs.length, sh.post]; simp
      refine lc_list (K := K) (a := p) (xs := osp.map V.ref) (fun j H3 => But D H2 H3 ∧ H3 D = some (.lst ((ws.take j).map V.ref))) ⟨fun c u e n => by rw [upd_ne n]; exact e, upd_same⟩ (fun j H3 _ h => .inl (.inl (h.1 _ _ hp2 (fun z => by rw [← z, hp2] at hD; cases hD)))) (fun j y H3 hj h => ?_) (fun H3 h => ?_)
      · obtain ⟨bD, hDl⟩ := h
        rw [List.getElem?_map] at hj
        obtain ⟨o, ho, rfl⟩ := Option.map_eq_some_iff.mp hj
        have hj' := (List.getElem?_eq_some_iff.mp ho).1
        obtain ⟨w, l, pp, hw, dx, hwo⟩ := hwo j o ho
        refine ⟨rfl, ?_⟩
        dsimp only [tYes]
        rw [if_pos rfl]
        refine ⟨_, rfl, o, C, dx, _, _, rfl, bD _ _ hwo (fun z => by rw [z, hD] at hwo; cases hwo), T.cl, T.nW, rfl, (ws.take j).map V.ref, hDl, ?_, bD.upd _, ?_⟩
        · rw [List.length_map]
          refine small1000 ?_
          have := List.length_take_le j ws
          have := shape_two sh
          have := oup.length
          omega
        · rw [upd_same, List.take_add_one, hw, List.map_append]; rfl
      · obtain ⟨bD, hDl⟩ := h
        rw [List.length_map, ← hws, List.take_length] at hDl
        have n23 : Nl H2 H3 := fun c u e n => bD _ _ e (fun z => by rw [z, hD] at e; cases e)
        have kk23 : Same H2 H3 := fun c u e => bD _ _ e (fun z => by rw [z, hD] at e; cases e)
        -- joined
        refine ⟨_, rfl, D, .ref b0, ws, xss, rfl, hDl, tws.keeps n23.tk, by omega, fun H4 wh k34 hwh => ?_⟩
        have k24 : Same H2 H4 := kk23.trans k34
        have agw : AgAt H4 wh (Mx.post b) := by
          refine ⟨_, hwh, ?_⟩
          rw [sh.post]
          exact (hxs.keeps (Bd.Same.tk k24)).app (.cons ⟨b0, dv, rfl, k24 _ _ hb2, hdv.keeps (Bd.Same.tk (kH2.trans k24))⟩ .nil)
        have oup4 := oup2.nl (Bd.Same.nl k24)
        -- step_outcome
        refine ⟨_, rfl, _, rfl, _, rfl, _, rfl, _, rfl, .ref b0, p, wh, d, t, v, b, ps, x, osp, rfl, sh, ⟨b0, dv, rfl, k24 _ _ hb2, hdv.keeps (Bd.Same.tk (kH2.trans k24))⟩, k24 _ _ hp2, oup4, agw, ?_, sm, fun c hc => (okp c hc).fit' sm, fun e c he => (he ▸ okb).bits sm, fun H5 r k45 pr => ?_⟩
        · exact ok.asks (hd.keeps (kH2.trans k24)) (List.mem_of_getElem? hx)
        · obtain ⟨lf, hr5, agl⟩ := pr
          have k25 := k24.trans k45
          refine ⟨r, _, rfl, .inl (.inl hr5), rfl, _, _, rfl, _, _, rfl, rfl, ?_⟩
          have hS5 := k25 _ _ hS2
          refine ⟨_, rfl, .inl ⟨rfl, _, .inl (.inl hS5)⟩, _, rfl, _, rfl, _, rfl, fun o dx ho hdx ne => ?_⟩
          refine ⟨o, dx, wh, lf, _, rfl, upd_same, fun H6 oo b56 => ⟨rfl, ?_⟩⟩
          have k56 : Same H5 H6 := fun c u e => b56 _ _ (by rw [upd_ne (fun z => by rw [z, ho] at e; cases e), upd_ne (fun z => by rw [z, hdx] at e; cases e)]; exact e) (fun z => by rw [z, ho] at e; cases e)
          have hS6 := k56 _ _ hS5
          have k26 := k25.trans k56
          refine ⟨st, _, _, rfl, rfl, hS6, ?_, some (.ref b0), some (.ref p), some (.ref wh), some (.ref lf), _, b :: l0, os0 ++ [o], rfl, ?_, mid', ?_, ?_⟩
          · rw [List.length_map, ou0.length]
            refine small1000 ?_
            have := lenP_ge l0.reverse
            have h3 := mid.len (by omega)
            rw [List.reverse_append, List.reverse_reverse] at h3
            have : lenP l0.reverse ≤ i := by
              have h4 : lenP (l0.reverse ++ ps) = lenP l0.reverse + lenP ps := by unfold lenP; rw [List.map_append, List.flatten_append, List.length_append]
              have h5 : lenP (l0.reverse ++ ps) = i := h3
              omega
            omega
          · intro c u e
            rw [upd_ne (fun z => by rw [z, hst] at e; cases e)]
            exact k26 _ _ (kH2 _ _ e)
          · rw [upd_same, List.map_append]; rfl
          · rw [List.reverse_cons]
            have n6 := nl_upd hS6 (.lst (os0.map V.ref ++ [.ref o]))
            exact (ou02.nl (Nl.trans (Bd.Same.nl k26) n6)).app (.cons (oo.nl n6) ((agw.keeps (Bd.Same.tk (k45.trans k56))).keeps n6.tk) ((agl.keeps (Bd.Same.tk k56)).keeps n6.tk) .nil)
    · obtain ⟨o4, o5, o6, o7, o8, l, os, rfl, k, mid, hS, ou⟩ := h
      rw [vl] at mid
      obtain rfl := mid.done
      cases ou with
      | cons h1 h2 h3 h4 =>
        cases h4
        rename_i o w lf
        obtain ⟨dx, h1⟩ := h1
        exact ⟨_, rfl, st, _, _, .ref o, rfl, rfl, .inl (.inl hS), rfl, o, C, dx, _, _, rfl, h1, T.cl, T.nL, rfl, _, rfl, st, _, _, .ref o, rfl, rfl, .inl (.inl hS), rfl, o, C, dx, _, _, rfl, h1, T.cl, T.nP, rfl, (by show 2 ≤ sizeLine; decide), fun r hr' => q _ r (same_new k hr' _) ⟨lf, upd_same, h3.keeps (Bd.Same.tk (same_new (Same.refl H1) hr' _))⟩⟩
end
end Bd
end
section
set_option Elab.async false
set_option linter.all false
set_option maxRecDepth 100000
set_option maxHeartbeats 4000000
set_option autoImplicit false
namespace Bd
open PySem PySem.Spec PyProof.Rows L2
/-- a comprehension over a text's signs -/
theorem lc_str {x : Str} {g : TG} {tt : TT} {te : TE} {vs : List Nat} {σ : L2.St} {H1 : Hp} {D : Addr} {Qd : Hp → Prop} (Pv : Nat → Hp → Prop) (h0 : Pv 0 (L2.upd H1 D (.lst [])))
    (hs : ∀ (i c : Nat) (H : Hp), x.cps[i]? = some c → Pv i H → g (.str ⟨#[c]⟩) (wipe σ vs) H fun σ2 H2 => wipe σ2 vs = wipe σ vs ∧ tt σ2 H2 fun b H3 =>
      if b = true then te σ2 H3 fun y H4 => ∃ acc, H4 D = some (.lst acc) ∧ acc.length < sizeLine ∧ Pv (i + 1) (L2.upd H4 D (.lst (acc ++ [y]))) else Pv (i + 1) H3) (hd : ∀ H, Pv x.cps.size H → Qd H) :
    ∃ W : Nat → Nat → Hp → Prop, (∃ m, W 0 m (L2.upd H1 D (.lst []))) ∧ ∀ i m H, W i m H →
      ((Its x).stop i H ∧ Qd H) ∨ ((Its x).go i H ∧ ∃ Nx : Hp → Prop, (∀ H', Nx H' → ∃ m', m' < m ∧ W (i + 1) m' H') ∧ ∀ y H', (Its x).yld i H y H' → g y (wipe σ vs) H' fun σ2 H2 => wipe σ2 vs = wipe σ vs ∧ tt σ2 H2 fun b H3 =>
        if b = true then te σ2 H3 fun y H4 => ∃ acc, H4 D = some (.lst acc) ∧ acc.length < sizeLine ∧ Nx (L2.upd H4 D (.lst (acc ++ [y]))) else Nx H3) := by
  refine ⟨fun i m H => m = x.cps.size - i ∧ i ≤ x.cps.size ∧ Pv i H, ⟨x.cps.size, by simp, Nat.zero_le _, h0⟩, ?_⟩
  rintro i m H ⟨rfl, hi, p⟩
  by_cases hlt : i < x.cps.size
  · refine .inr ⟨hlt, Pv (i + 1), fun H' p' => ⟨x.cps.size - (i + 1), by omega, rfl, hlt, p'⟩, fun y H' h => ?_⟩
    obtain ⟨e, c, hc, rfl⟩ := h
    subst e
    exact hs i c _ hc p
  · have e : i = x.cps.size := by omega
    subst e
    exact .inl ⟨Nat.le_refl _, hd H p⟩
/-- an answer at r -/
def AnsAt (H : Hp) (r : Addr) (l : List Int) : Prop := H r = some (.lst (l.map V.int))
theorem counted_len (b : Co01.Bytes) : (Co01.counted b).length = b.length + 1 := by simp [Co01.counted, Co01.ints]
theorem ints_map (b : Co01.Bytes) : (Co01.ints b).map V.int = nats b := by simp [Co01.ints, nats]
section
variable {P : Program} {w : World} {K : PySem.W.Frag} {mg : Str → Option Value} {base : Heap} {f : Addr} {fd : FuncData}
/-! ## refusal -/
abbrev sRefusal : Stmt := top 75
def spRefusal : Sp := fun vs H Q _ => ∃ n : Int, vs = [.int n] ∧ ∀ (H' : Hp) (r : Addr), Same H H' → H r = none → AnsAt H' r [-n] → Q (.ref r) H'
theorem scRefusal : FnScope ["number"] ["number"] (defScope sRefusal) := ⟨rfl, rfl, rfl, by decide +kernel, rfl, by decide +kernel, by decide +kernel⟩
theorem ok_refusal (F : FnP K "refusal" sRefusal f fd) : FnOk P w K mg base CX0 1 f fd ["number"] spRefusal := by
  refine F.ok scRefusal (fun vs H Q E h => ?_) (fun cdv A outer s H vs Q E hr h => ⟨_, pss_one (ps_ret (pe_lst (pa_cons (pe_un un_neg (pv 0)) pa_nil))), ?_⟩)
  · obtain ⟨n, rfl, _⟩ := h
    rfl
  · obtain ⟨n, rfl, q⟩ := h
    exact ⟨_, rfl, n, rfl, (by show 1 ≤ sizeLine; decide), fun l hl => q _ l (same_new (Same.refl H) hl _) hl upd_same⟩
/-! ## may_at -/
abbrev sMayAt : Stmt := top 77
def spMayAt : Sp := fun vs H Q _ => ∃ (a : Addr) (p : Nat) (l : List Mx.St) (x : Mx.St), vs = [.ref a, .int p] ∧ AgAt H a l ∧ l[p]? = some x ∧ Q (.bl (decide (x.w = Co01.ascii "may"))) H
theorem scMayAt : FnScope ["agreement", "place"] ["agreement", "place"] (defScope sMayAt) := ⟨rfl, rfl, rfl, by decide +kernel, rfl, by decide +kernel, by decide +kernel⟩
theorem ok_mayAt (F : FnP K "may_at" sMayAt f fd) : FnOk P w K mg base CX0 1 f fd ["agreement", "place"] spMayAt := by
  refine F.ok scMayAt (fun vs H Q E h => ?_) (fun cdv A outer s H vs Q E hr h => ⟨_, pss_one (ps_ret (pe_cmpR op_eq (pe_ix ix_tup (pe_ix ix_tup (pv 0) (pv 1) (fun _ _ => rfl)) pe_int (fun _ _ => rfl)) pe_str (nomark _))), ?_⟩)
  · obtain ⟨a, p, l, x, rfl, _⟩ := h
    rfl
  · obtain ⟨a, p, l, x, rfl, ⟨vs, ha, hs⟩, hx, q⟩ := h
    obtain ⟨v, hv, b0, dv, rfl, hb, _⟩ := hs.at_ hx
    refine ⟨_, rfl, _, rfl, a, vs, _, .ref b0, rfl, rfl, .inl (.inl ha), atI_nat hv, b0, _, 0, .str (sB x.w), rfl, rfl, .inl (.inl hb), rfl, rfl, ?_⟩
    have e : decide (V.str (sB x.w) = V.str (Str.ofString "may")) = decide (x.w = Co01.ascii "may") := by
      refine decide_eq_decide.mpr ⟨fun h => ?_, fun h => ?_⟩
      · have h := V.str.inj h
        rw [show Str.ofString "may" = sB (Co01.ascii "may") by decide +kernel] at h
        exact sB_inj.mp h
      · rw [h]
        exact congrArg V.str (by decide +kernel)
    rw [e]
    exact q
/-! ## begun -/
abbrev sBegun : Stmt := top 28
def spBegun : Sp := fun vs H Q _ => ∃ (a : Addr) (pre suf : List Mx.St) (x : Mx.St), vs = [.ref a, .int pre.length] ∧ AgAt H a (pre ++ [x] ++ suf) ∧ (pre ++ [x] ++ suf).length ≤ 1000 ∧ ∀ (H' : Hp) (r : Addr), Same H H' → AgAt H' r (pre ++ suf) → Q (.ref r) H'
theorem scBegun : FnScope ["agreement", "place"] ["agreement", "place"] (defScope sBegun) := ⟨rfl, rfl, rfl, by decide +kernel, rfl, by decide +kernel, by decide +kernel⟩
theorem ok_begun (F : FnP K "begun" sBegun f fd) : FnOk P w K mg base CX0 1 f fd ["agreement", "place"] spBegun := by
  refine F.ok scBegun (fun vs H Q E h => ?_) (fun cdv A outer s H vs Q E hr h => ⟨_, pss_one (ps_ret (pe_op op_catA (pe_slice sl_tupA (pv 0) po_none (po_some (pv 1))) (pe_slice sl_tupA (pv 0) (po_some (pe_op op_add (pv 1) pe_int)) po_none))), ?_⟩)
  · obtain ⟨a, pre, suf, x, rfl, _⟩ := h
    rfl
  · obtain ⟨a, pre, suf, x, rfl, ⟨vs, ha, hs⟩, len, q⟩ := h
    obtain ⟨v1, vS, rfl, h1, hS⟩ := hs.split
    obtain ⟨vP, vX, rfl, hP, hX⟩ := h1.split
    have lP := hP.length
    have lX : vX.length = 1 := hX.length
    have lS := hS.length
    have c1 : cutV (vP ++ vX ++ vS) none (some ((pre.length : Nat) : Int)) = vP := by
      have := cutV_pre vP (vX ++ vS)
      rw [← lP]; simpa [List.append_assoc] using this
    have c2 : cutV (vP ++ vX ++ vS) (some (((pre.length : Nat) : Int) + 1)) none = vS := by
      have := cutV_suf (vP ++ vX) vS
      have e : ((vP ++ vX).length : Int) = ((pre.length : Nat) : Int) + 1 := by rw [List.length_append, lP, lX]; rfl
      rw [e] at this
      exact this
    have lenE : pre.length + 1 + suf.length ≤ 1000 := by simp at len; omega
    refine ⟨_, rfl, _, rfl, _, rfl, sl_any ha fun H1 p1 k1 e1 => ?_⟩
    rw [c1] at e1
    refine ⟨_, rfl, _, rfl, _, _, rfl, rfl, _, rfl, ?_⟩
    dsimp only [tNoPart]
    refine sl_any (k1 _ _ ha) fun H2 p2 k2 e2 => ?_
    rw [c2] at e2
    exact cat_any (k2 _ _ e1) e2 (by omega) fun H3 p3 k3 e3 => q H3 p3 ((k1.trans k2).trans k3) ⟨_, e3, (hP.app hS).keeps (Bd.Same.tk ((k1.trans k2).trans k3))⟩
/-! ## text_told -/
abbrev sTold : Stmt := top 79
def spTold : Sp := fun vs H Q _ => ∃ b : Co01.Bytes, vs = [.str (sB b)] ∧ b.length ≤ 10000000 ∧ ∀ (H' : Hp) (r : Addr), Same H H' → H r = none → AnsAt H' r (Co01.counted b) → Q (.ref r) H'
theorem scTold : FnScope ["text", "sign"] ["text"] (defScope sTold) := ⟨rfl, rfl, rfl, by decide +kernel, rfl, by decide +kernel, by decide +kernel⟩
theorem ok_told (F : FnP K "text_told" sTold f fd) (gL : mg "len" = none) (gO : mg "ord" = none) : FnOk P w K mg base CX0 1 f fd ["text"] spTold := by
  refine F.ok scTold (fun vs H Q E h => ?_) (fun cdv A outer s H vs Q E hr h => ⟨_, pss_one (ps_ret (pe_op op_cat (pe_lst (pa_cons (pe_callB call_len_str rfl gL PySem.boot_len (pa_cons (pv 0) pa_nil)) pa_nil))
    (pe_lc (own := [("sign", 1)]) (g := gName 1) (tt := tYes) rfl scTold.nd (pi_str (pv 0)) (blkOk_by (N := ["text", "sign"]) (sc := defScope sTold) (by decide +kernel))
          (fun _ _ _ _ _ => pg_name (i := 1) scTold.nd rfl (.inl rfl)) (fun _ _ _ _ _ => pts_nil) (fun _ _ _ _ _ => pe_callB call_ord rfl gO (by decide +kernel) (pa_cons (pv 1) pa_nil))))), ?_⟩)
  · obtain ⟨b, rfl, _⟩ := h
    rfl
  · obtain ⟨b, rfl, hb, q⟩ := h
    have sl : sizeLine = 16777216 := sizeLine_eq
    have zl : (sB b).length = b.length := by simp [sB, Str.length]
    refine ⟨_, rfl, _, rfl, by rw [zl, sl]; omega, (by show 1 ≤ sizeLine; decide), fun l hl => ⟨_, rfl, _, rfl, fun D hD => ?_⟩⟩
    rw [zl] at hD ⊢
    have lD : l ≠ D := fun z => by rw [← z, upd_same] at hD; cases hD
    refine lc_str (x := sB b) (fun i H1 => H1 = L2.upd (L2.upd H l (.lst [.int b.length])) D (.lst (nats (b.take i)))) (by simp [nats]) (fun i c H1 hc h => ?_) (fun H1 h => ?_)
    · subst h
      have hc' : b[i]? = some c := by simpa [sB] using hc
      have hi := (List.getElem?_eq_some_iff.mp hc').1
      refine ⟨rfl, ?_⟩
      dsimp only [tYes]
      rw [if_pos rfl]
      refine ⟨_, rfl, _, rfl, rfl, _, upd_same, ?_, ?_⟩
      · rw [show (nats (b.take i)).length = (b.take i).length by simp [nats], List.length_take, sl]; omega
      · rw [upd_upd, List.take_add_one, hc']
        simp [nats]
    · subst h
      have e : (sB b).cps.size = b.length := zl
      rw [e, List.take_length]
      refine ⟨l, D, _, _, rfl, rfl, by rw [upd_ne lD]; exact upd_same, upd_same, ?_, fun p hp => ?_⟩
      · rw [show (nats b).length = b.length by simp [nats], sl]; simp; omega
      · refine q _ p (same_new (same_new (same_new (Same.refl H) hl _) hD _) hp _) ?_ ?_
        · exact (same_new (same_new (Same.refl H) hl _) hD _).free hp
        · show L2.upd _ p _ p = _
          rw [upd_same]
          simp [Co01.counted, Co01.ints, nats]
/-! ## names_told -/
abbrev sNamesTold : Stmt := top 78
def spNamesTold : Sp := fun vs H Q _ => ∃ (a : Addr) (ns : List Co01.Bytes), vs = [.ref a] ∧ H a = some (.lst (texts ns)) ∧ ns.length ≤ 4 ∧ (∀ b ∈ ns, b.length ≤ 200) ∧ ∀ (H' : Hp) (r : Addr), Same H H' → H r = none → AnsAt H' r ((ns.length : Int) :: ns.flatMap Co01.counted) → Q (.ref r) H'
theorem scNamesTold : FnScope ["names", "answer", "name"] ["names"] (defScope sNamesTold) := ⟨rfl, rfl, rfl, by decide +kernel, rfl, by decide +kernel, by decide +kernel⟩
theorem ok_namesTold {f1 : Addr} {fd1 : FuncData} (F : FnP K "names_told" sNamesTold f fd) (gL : mg "len" = none) (F1 : FnP K "text_told" sTold f1 fd1) (m1 : mg "text_told" = some (.ref f1)) (G1 : FnOk P w K mg base CX0 1 f1 fd1 ["text"] spTold) :
    FnOk P w K mg base CX0 2 f fd ["names"] spNamesTold := by
  have b1 : Binds K fd1 ["text"] [] := F1.binds fun _ _ _ _ _ _ us hl => match us, hl with | [_], _ => rfl
  refine F.ok scNamesTold (fun vs H Q E h => ?_) (fun cdv A outer s H vs Q E hr h => ⟨_, (pss_cons (ps_set (i := 1) scNamesTold.nd rfl (.inl rfl) (pe_lst (pa_cons (pe_callB call_len_seq rfl gL PySem.boot_len (pa_cons (pv 0) pa_nil)) pa_nil)))
    (pss_cons (ps_for PassesOwn.never rfl (pi_list (pv 0)) (pg_name (i := 2) scNamesTold.nd rfl (.inl rfl))
      (pss_one (ps_expr (pe_bm PySem.F.plainAttrs_list PySem.F.slot_list_extend PySem.F.type_list_extend mt_extend (pv 1) (pa_cons (pe_call G1 hr rfl m1 F1.kp b1 .nil pass0 (pa_cons (pv 2) pa_nil)) pa_nil)))))
    (pss_one (ps_ret (pv 1))))), ?_⟩)
  · obtain ⟨a, ns, rfl, _⟩ := h
    rfl
  · obtain ⟨a, ns, rfl, ha, ln, lb, q⟩ := h
    have sl : sizeLine = 16777216 := sizeLine_eq
    have tl : (texts ns).length = ns.length := by simp [texts]
    refine ⟨_, rfl, a, texts ns, rfl, .inl (.inl (.inl ha)), (by show 1 ≤ sizeLine; decide), fun l hl => ?_⟩
    have al : a ≠ l := fun z => by rw [z, hl] at ha; cases ha
    rw [tl]
    have cl : ∀ i, (((ns.take i).flatMap Co01.counted).length) ≤ 201 * i := fun i => by
      induction i with
      | zero => simp
      | succ i ih =>
        rw [List.take_add_one, List.flatMap_append, List.length_append]
        cases e : ns[i]? with
        | none => show _ + 0 ≤ _; omega
        | some b =>
          have := lb b (List.mem_of_getElem? e)
          rw [Option.toList_some, List.flatMap_singleton, counted_len]; omega
    refine ⟨_, rfl, a, rfl, ⟨_, .inl (.inl (by rw [upd_ne al]; exact ha))⟩, for_list (K := K) (a := a) (xs := texts ns) (fun i σ H1 => ∃ o : Option V, σ = [some (.ref a), some (.ref l), o] ∧ Same H H1 ∧ H1 l = some (.lst ((((ns.length : Nat) : Int) :: (ns.take i).flatMap Co01.counted).map V.int)) ∧ i ≤ ns.length)
      ⟨none, rfl, same_new (Same.refl H) hl _, upd_same, Nat.zero_le _⟩ (fun i σ H1 _ h => by obtain ⟨_, _, k, _⟩ := h; exact .inl (.inl (k _ _ ha))) (fun i y σ H1 hi h => ?_) (fun σ H1 h => ?_)⟩
    · obtain ⟨o, rfl, k, hl1, hi'⟩ := h
      obtain ⟨b, hb, rfl⟩ : ∃ b, ns[i]? = some b ∧ y = .str (sB b) := by
        simp only [texts, List.getElem?_map] at hi
        obtain ⟨b, hb, rfl⟩ := Option.map_eq_some_iff.mp hi
        exact ⟨b, hb, rfl⟩
      have hlt := (List.getElem?_eq_some_iff.mp hb).1
      have lbb := lb b (List.mem_of_getElem? hb)
      refine ⟨_, rfl, .inl ⟨rfl, _, .inl (.inl hl1)⟩, _, rfl, b, rfl, by omega, fun H2 r k2 hr2 an => ⟨l, r, _, _, rfl, rfl, k2 _ _ hl1, an, ?_, _, rfl, ?_, ?_, hlt⟩⟩
      · have := cl i
        rw [List.length_map, List.length_map, List.length_cons, counted_len, sl]
        omega
      · intro c u e
        rw [upd_ne (fun z => by rw [z, hl] at e; cases e)]
        exact k2 _ _ (k _ _ e)
      · rw [upd_same, List.take_add_one, hb]
        simp
    · obtain ⟨o, rfl, k, hl1, hi'⟩ := h
      rw [tl, List.take_length] at hl1
      exact ⟨_, rfl, q H1 l k hl hl1⟩
end
/-! ## what kind waits at a place -/
theorem kind_at {g : Co01.Ag} {i p : Nat} {sd : Bool} (h : (Mx.waitsAt false 0 g)[i]? = some (p, sd)) : ∃ kind x, (Co01.waits false g)[i]? = some (kind, sd) ∧ (Mx.post g)[p]? = some x ∧ (kind = 0 ∨ kind = 1) ∧ (decide (x.w = Co01.ascii "may") = decide (kind = 1)) := by
  obtain ⟨kind, h1, q, e, pre, suf, h2⟩ := Mx.waits_cut false g false 0 i p sd h
  rw [Nat.zero_add] at e
  subst e
  rcases h2 with ⟨rfl, x, y, z, hz, e1, e2, e3⟩ | ⟨rfl, x, k, e1, e2, e3⟩
  · refine ⟨0, z, h1, ?_, .inl rfl, ?_⟩
    · rw [e1, e2]
      have : (pre ++ (Mx.post x ++ Mx.post y ++ [z]) ++ suf) = (pre ++ Mx.post x ++ Mx.post y) ++ ([z] ++ suf) := by simp
      rw [this, List.getElem?_append_right (by simp; omega)]
      have : p - (pre ++ Mx.post x ++ Mx.post y).length = 0 := by simp; omega
      rw [← e2, this]; rfl
    · rw [decide_eq_false hz]; rfl
  · refine ⟨1, Mx.st "may" (.num k), h1, ?_, .inr rfl, ?_⟩
    · rw [e1, e2]
      have : (pre ++ (Mx.post x ++ [Mx.st "may" (.num k)]) ++ suf) = (pre ++ Mx.post x) ++ ([Mx.st "may" (.num k)] ++ suf) := by simp
      rw [this, List.getElem?_append_right (by simp)]
      have : p - (pre ++ Mx.post x).length = 0 := by simp; omega
      rw [← e2, this]; rfl
    · rw [decide_eq_true (show (Mx.st "may" (.num k)).w = Co01.ascii "may" from rfl)]; rfl
theorem waits_kinds {g : Co01.Ag} {i : Nat} {x : Nat × Bool} (h : (Co01.waits false g)[i]? = some x) : ∃ p, (Mx.waitsAt false 0 g)[i]? = some (p, x.2) := by
  have hi := (List.getElem?_eq_some_iff.mp h).1
  have hl := Mx.waitsAt_len false g 0
  have : ∃ y, (Mx.waitsAt false 0 g)[i]? = some y := ⟨_, List.getElem?_eq_getElem (by omega)⟩
  obtain ⟨⟨p, sd⟩, hy⟩ := this
  obtain ⟨kind, _, h1, _⟩ := kind_at hy
  rw [h] at h1
  cases h1
  exact ⟨p, hy⟩
end Bd
end
section
set_option Elab.async false
set_option linter.all false
set_option maxRecDepth 100000
set_option maxHeartbeats 4000000
set_option autoImplicit false
namespace Bd
open PySem PySem.Spec PyProof.Rows L2
section
variable {P : Program} {w : World} {K : PySem.W.Frag} {mg : Str → Option Value} {base : Heap} {f : Addr} {fd : FuncData}
/-! ## choice_waits -/
abbrev sChoiceW : Stmt := top 76
def spChoiceW : Sp := fun vs H Q _ => ∃ (a : Addr) (g : Co01.Ag), vs = [.ref a] ∧ AgAt H a (Mx.post g) ∧ (Mx.post g).length ≤ 900 ∧ ∀ (H' : Hp), Same H H' → Q (.bl (Co01.mustChoose g)) H'
theorem scChoiceW : FnScope ["agreement", "place", "side"] ["agreement"] (defScope sChoiceW) := ⟨rfl, rfl, rfl, by decide +kernel, rfl, by decide +kernel, by decide +kernel⟩
theorem ok_choiceW {f1 f2 : Addr} {fd1 fd2 : FuncData} (F : FnP K "choice_waits" sChoiceW f fd)
    (F1 : FnP K "waiting_in" sWaitIn f1 fd1) (m1 : mg "waiting_in" = some (.ref f1)) (G1 : FnOk P w K mg base CX0 3 f1 fd1 ["agreement"] spWaitIn)
    (F2 : FnP K "may_at" sMayAt f2 fd2) (m2 : mg "may_at" = some (.ref f2)) (G2 : FnOk P w K mg base CX0 1 f2 fd2 ["agreement", "place"] spMayAt) :
    FnOk P w K mg base CX0 4 f fd ["agreement"] spChoiceW := by
  have b1 : Binds K fd1 ["agreement"] [] := F1.binds fun _ _ _ _ _ _ us hl => match us, hl with | [_], _ => rfl
  have b2 : Binds K fd2 ["agreement", "place"] [] := F2.binds fun _ _ _ _ _ _ us hl => match us, hl with | [_, _], _ => rfl
  refine F.ok scChoiceW (fun vs H Q E h => ?_) (fun cdv A outer s H vs Q E hr h => ⟨_, (pss_cons (ps_for PassesOwn.never rfl (pi_list (pe_call G1 hr rfl m1 F1.kp b1 .nil pass0 (pa_cons (pv 0) pa_nil))) (pg_tup rfl (pgs_cons (pg_name (i := 1) scChoiceW.nd rfl (.inl rfl)) (pgs_cons (pg_name (i := 2) scChoiceW.nd rfl (.inl rfl)) pgs_nil)))
      (pss_one (ps_if (pt_not (pt_val (pe_call (G2.mono (by decide)) hr rfl m2 F2.kp b2 .nil pass0 (pa_cons (pv 0) (pa_cons (pv 1) pa_nil))))) (pss_one (ps_ret pe_bl)) pss_nil)))
    (pss_one (ps_ret pe_bl))), ?_⟩)
  · obtain ⟨a, g, rfl, _⟩ := h
    rfl
  · obtain ⟨a, g, rfl, ag, len, q⟩ := h
    refine ⟨_, rfl, a, g, rfl, ag, len, fun H1 r k hr1 wt => ?_⟩
    obtain ⟨as, hr, tu⟩ := wt
    have ag1 : AgAt H1 a (Mx.post g) := ag.keeps (Bd.Same.tk k)
    refine ⟨r, rfl, ⟨as.map V.ref, .inl (.inl hr)⟩, for_list (K := K) (a := r) (xs := as.map V.ref) (fun i σ H2 => ∃ (o1 o2 : Option V), σ = [some (.ref a), o1, o2] ∧ H2 = H1 ∧ ∀ j, j < i → ∀ x, (Co01.waits false g)[j]? = some x → x.1 = 1)
      ⟨none, none, rfl, rfl, fun j h => absurd h (Nat.not_lt_zero _)⟩ (fun i σ H2 _ h => by obtain ⟨_, _, _, rfl, _⟩ := h; exact .inl (.inl hr)) (fun i y σ H2 hi h => ?_) (fun σ H2 h => ?_)⟩
    · obtain ⟨o1, o2, rfl, rfl, hk⟩ := h
      obtain ⟨b, y, rfl, hy, hb⟩ := tu.at_ hi
      rw [List.getElem?_map] at hy
      obtain ⟨⟨p, sd⟩, hx, rfl⟩ := Option.map_eq_some_iff.mp hy
      obtain ⟨kind, x, h1, h2, h3, h4⟩ := kind_at hx
      refine ⟨b, _, rfl, .inl (.inl hb), rfl, _, _, rfl, _, _, rfl, rfl, _, rfl, _, rfl, a, p, Mx.post g, x, rfl, ag1, h2, _, rfl, ?_⟩
      rw [h4]
      rcases h3 with rfl | rfl
      · have e : Co01.mustChoose g = true := by
          unfold Co01.mustChoose
          rw [List.any_eq_true]
          exact ⟨_, List.mem_of_getElem? h1, rfl⟩
        rw [e] at q
        exact q _ k
      · refine ⟨_, _, rfl, rfl, fun j hj z hz => ?_⟩
        by_cases c : j < i
        · exact hk j c z hz
        · have : j = i := by omega
          subst this
          rw [h1] at hz
          cases hz; rfl
    · obtain ⟨o1, o2, rfl, rfl, hk⟩ := h
      have e : Co01.mustChoose g = false := by
        unfold Co01.mustChoose
        rw [List.any_eq_false]
        intro x hx
        obtain ⟨j, hj⟩ := List.getElem?_of_mem hx
        have hl : as.length = (Co01.waits false g).length := by rw [tu.length, List.length_map, Mx.waitsAt_len]
        have := hk j (by rw [List.length_map, hl]; exact (List.getElem?_eq_some_iff.mp hj).1) x hj
        rw [this]; decide
      rw [e] at q
      exact q _ k
end
end Bd
end
section
set_option Elab.async false
set_option linter.all false
set_option maxRecDepth 100000
set_option maxHeartbeats 4000000
set_option autoImplicit false
namespace Bd
open PySem PySem.Spec PyProof.Rows L2
theorem small10k {n : Nat} (h : n ≤ 10000) : n < sizeLine := Nat.lt_of_le_of_lt h (by decide)
/-! ## goals as they stand -/
/-- a tuple of the written part -/
def KTu (K : PySem.W.Frag) (a : Addr) (xs : List V) : Prop := ∃ (o : Obj) (its : Array Value) (n : Nat), K.lookup a = some o ∧ o.cls = .type "tuple" ∧ o.data = .seq its n ∧ its.size ≤ sizeLine ∧ Vals xs its.toList
theorem KTu.sq {K : PySem.W.Frag} {a : Addr} {xs : List V} (h : KTu K a xs) (H : Hp) : SqT K H a xs := .inr h
theorem KTu.ty {K : PySem.W.Frag} {a : Addr} {xs : List V} (h : KTu K a xs) (H : Hp) : TyX K H (.ref a) (.type "tuple") := by
  obtain ⟨o, its, n, h1, h2, _⟩ := h
  exact .kTuple h1 h2
def GoalV (K : PySem.W.Frag) : Mx.G → V → Prop
  | .sym z, v => v = .str (sB z)
  | .mk w, v => ∃ a, v = .ref a ∧ KTu K a [.str "make", .str (sB w)]
def GoalsV (K : PySem.W.Frag) (l : List Mx.G) (vs : List V) : Prop := Paired (GoalV K) l vs
theorem GoalsV.app {K : PySem.W.Frag} {l m : List Mx.G} {vs us : List V} (h : GoalsV K l vs) (h' : GoalsV K m us) : GoalsV K (l ++ m) (vs ++ us) := by
  induction h with
  | nil => exact h'
  | cons e _ ih => exact .cons e ih
theorem GoalsV.rev {K : PySem.W.Frag} {l : List Mx.G} {vs : List V} (h : GoalsV K l vs) : GoalsV K l.reverse vs.reverse := by
  induction h with
  | nil => exact .nil
  | cons e _ ih => rw [List.reverse_cons, List.reverse_cons]; exact ih.app (.cons e .nil)
theorem GoalsV.length {K : PySem.W.Frag} {l : List Mx.G} {vs : List V} (h : GoalsV K l vs) : l.length = vs.length := Paired.length h
/-- the tables of the top -/
def ByTokG (P : Program) (w : World) (K : PySem.W.Frag) (mg : Str → Option Value) : Prop := ∃ d, mg "RULES_BY_TOKEN" = some (.ref d) ∧ ∃ xs, KTup P w K d xs ∧ ∀ g k : Co01.Bytes, match Mx.byTok g k with
  | some l => ∃ (p a : Addr) (vs : List V), atKey xs [.inr (sB g), .inr (sB k)] = some (p, .ref a) ∧ KTu K a vs ∧ GoalsV K l vs
  | none => atKey xs [.inr (sB g), .inr (sB k)] = none
def ByRuleG (P : Program) (w : World) (K : PySem.W.Frag) (mg : Str → Option Value) : Prop := ∃ d, mg "RULES" = some (.ref d) ∧ ∃ f, KMix P w K d f ∧ ∀ g : Co01.Bytes, match Mx.byRule g with
  | some l => ∃ (a : Addr) (vs : List V), f (.inr (sB g)) = some (.ref a) ∧ KTu K a vs ∧ GoalsV K l vs
  | none => f (.inr (sB g)) = none
section
variable {P : Program} {w : World} {K : PySem.W.Frag} {mg : Str → Option Value} {base : Heap} {f : Addr} {fd : FuncData}
/-! ## joined, long -/
def spJoinL : Sp := fun vs H Q _ => ∃ (l : Addr) (step : V) (as : List Addr) (xss : List (List V)), vs = [.ref l, step] ∧ H l = some (.lst (as.map V.ref)) ∧ Tups H as xss ∧ xss.flatten.length ≤ 9000 ∧
  ∀ (H' : Hp) (p : Addr), Same H H' → H' p = some (.tup (xss.flatten ++ [step])) → Q (.ref p) H'
theorem scJoinL : FnScope ["parts", "step", "steps", "part"] ["parts", "step"] (defScope sJoin) := ⟨rfl, rfl, rfl, by decide +kernel, rfl, by decide +kernel, by decide +kernel⟩
theorem ok_joinL (F : FnP K "joined" sJoin f fd) : FnOk P w K mg base CX0 1 f fd ["parts", "step"] spJoinL := by
  refine F.ok scJoinL (fun vs H Q E h => ?_) (fun cdv A outer s H vs Q E hr h => ⟨_, (pss_cons (ps_set (i := 2) scJoinL.nd rfl (.inl rfl) (pe_tup pa_nil))
    (pss_cons (ps_for PassesOwn.never rfl (pi_list (pv 0)) (pg_name (i := 3) scJoinL.nd rfl (.inl rfl)) (pss_one (ps_set (i := 2) scJoinL.nd rfl (.inl rfl) (pe_op op_catA (pv 2) (pv 3)))))
    (pss_one (ps_ret (pe_op op_catA (pv 2) (pe_tup (pa_cons (pv 1) pa_nil))))))), ?_⟩)
  · obtain ⟨l, step, as, xss, rfl, _⟩ := h
    rfl
  · obtain ⟨l, step, as, xss, rfl, hl, tu, hz, q⟩ := h
    have lz : ∀ i, (xss.take i).flatten.length ≤ xss.flatten.length := fun i => by
      conv => rhs; rw [← List.take_append_drop i xss, List.flatten_append, List.length_append]
      omega
    refine ⟨by decide, fun t ht => ?_⟩
    refine ⟨_, rfl, l, rfl, ⟨as.map V.ref, .inl (.inl (same_new (Same.refl H) ht _ _ _ hl))⟩, for_list (K := K) (a := l) (xs := as.map V.ref) (fun i σ H' => ∃ (o : Option V) (p : Addr), σ = [some (.ref l), some step, some (.ref p), o] ∧ Same H H' ∧ H' p = some (.tup (xss.take i).flatten))
      ⟨none, t, rfl, same_new (Same.refl H) ht _, upd_same⟩ (fun i σ H' _ h => by obtain ⟨_, _, _, k, _⟩ := h; exact .inl (.inl (k _ _ hl))) (fun i y σ H' hi h => ?_) (fun σ H' h => ?_)⟩
    · obtain ⟨o, p, rfl, k, hp⟩ := h
      obtain ⟨b, x, rfl, hx, hb⟩ := tu.at_ hi
      have hst : (xss.take (i + 1)).flatten = (xss.take i).flatten ++ x := by rw [List.take_add_one, hx, List.flatten_append]; simp
      have z1 := lz (i + 1)
      have z2 := hst ▸ z1
      rw [List.length_append] at z2
      refine ⟨_, rfl, _, rfl, p, b, _, x, rfl, rfl, .inl (.inl hp), .inl (.inl (k _ _ hb)), Nat.le_of_lt (small10k (by omega)), fun e => ⟨_, b, rfl, k, ?_⟩, fun _ e => ⟨_, p, rfl, k, ?_⟩, fun _ _ r hr => ⟨_, r, rfl, same_new k hr _, ?_⟩⟩
      · rw [hst, e, List.nil_append]; exact k _ _ hb
      · rw [hst, e, List.append_nil]; exact hp
      · rw [hst]; exact upd_same
    · obtain ⟨o, p, rfl, k, hp⟩ := h
      have hal : as.length = xss.length := tu.length
      rw [List.length_map, hal, List.take_length] at hp
      refine ⟨_, rfl, _, rfl, (by show 1 ≤ sizeLine; decide), fun t2 ht2 => ?_⟩
      refine ⟨p, t2, _, _, rfl, rfl, .inl (.inl (keepAt ht2 hp)), .inl (.inl upd_same), ?_, fun e => q _ t2 (same_new k ht2 _) ?_, fun _ e => absurd e (by simp), fun _ _ r hr => q _ r (same_new (same_new k ht2 _) hr _) upd_same⟩
      · rw [List.length_singleton]; exact Nat.le_of_lt (small10k (by omega))
      · rw [e]; exact upd_same
/-! ## put_goals -/
abbrev sPut : Stmt := top 34
def spPut (C : Addr) (K : PySem.W.Frag) : Sp := fun vs H Q E => ∃ (gl : Addr) (g k : Co01.Bytes) (p : Int) (bs : List V), vs = [.ref gl, .str (sB g), .str (sB k), .int p] ∧ H gl = some (.lst bs) ∧ bs.length ≤ 100000 ∧
  (∀ l, Mx.put g k = some l → ∀ (H' : Hp) (vs : List V), But gl H H' → GoalsV K l vs → H' gl = some (.lst (bs ++ vs.reverse)) → Q .non H') ∧
  (Mx.put g k = none → ∀ H', Same H H' → faultAt C E H' p)
theorem put_short {g k : Co01.Bytes} {l : List Mx.G} (h : Mx.put g k = some l) : l.length ≤ 8 ∧ Mx.s "end" ∉ l := by
  have all : ∀ y ∈ Mx.BYTOK.map (·.2) ++ Mx.RULES.map (·.2), y.length ≤ 8 ∧ Mx.s "end" ∉ y := by decide +kernel
  unfold Mx.put at h
  split at h
  · rename_i l' e
    injection h with h
    subst h
    unfold Mx.byTok at e
    have := List.lookup_eq_some_iff.mp e
    obtain ⟨l1, l2, e, _⟩ := this
    exact all _ (by rw [e]; simp)
  · unfold Mx.byRule at h
    have := List.lookup_eq_some_iff.mp h
    obtain ⟨l1, l2, e, _⟩ := this
    exact all _ (by rw [e]; simp)
theorem scPut : FnScope ["goals", "goal", "kind", "place", "found", "inner"] ["goals", "goal", "kind", "place"] (defScope sPut) := ⟨rfl, rfl, rfl, by decide +kernel, rfl, by decide +kernel, by decide +kernel⟩
theorem ok_put {C fI : Addr} (F : FnP K "put_goals" sPut f fd) (T : PySem.FaultX.FaultTxt K mg C fI) (g1 : ByTokG P w K mg) (g2 : ByRuleG P w K mg) (gR : mg "reversed" = none) :
    FnOk P w K mg base (L2N.CX P w) 3 f fd ["goals", "goal", "kind", "place"] (spPut C K) := by
  obtain ⟨d1, n1, xs, t1, h1⟩ := g1
  obtain ⟨d2, n2, fn, t2, h2⟩ := g2
  refine F.okXN scPut (fun vs H Q E h => ?_) (fun cdv A outer s H vs Q E hr h => ⟨_, (pss_cons (ps_if (pt_cmpR (op_in_ktup (hu_of hr)) (pe_tup (pa_cons (pv 1) (pa_cons (pv 2) pa_nil))) (pe_glob (v := .ref d1) (by rfl) n1 rfl) rfl)
        (pss_one (ps_set (i := 4) scPut.nd rfl (.inl rfl) (pe_ix (ix_ktup (hu_of hr)) (pe_glob (v := .ref d1) (by rfl) n1 rfl) (pe_tup (pa_cons (pv 1) (pa_cons (pv 2) pa_nil))) (fun _ _ => rfl))))
        (pss_one (ps_if (pt_cmpR op_in_kmix (pv 1) (pe_glob (v := .ref d2) (by rfl) n2 rfl) rfl)
          (pss_one (ps_set (i := 4) scPut.nd rfl (.inl rfl) (pe_ix ix_kmix (pe_glob (v := .ref d2) (by rfl) n2 rfl) (pv 1) (fun _ _ => rfl))))
          (pss_one (ps_raiseLow rfl T hr (L2N.takes_of rfl rfl rfl rfl) (by exact (pa_cons (pv 3) pa_nil)))))))
    (pss_one (ps_for (passes_of rfl) rfl (RT.pi_revA rfl gR (pv 4)) (pg_name (i := 5) scPut.nd rfl (.inl rfl))
      (pss_one (ps_expr (pe_bm PySem.F.plainAttrs_list PySem.F.slot_list_append PySem.F.type_list_append mt_append (pv 0) (pa_cons (pv 5) pa_nil))))))), ?_⟩)
  · obtain ⟨gl, g, k, p, bs, rfl, _⟩ := h
    rfl
  · obtain ⟨gl, g, k, p, bs, rfl, hg, bl, hO, hE⟩ := h
    refine ⟨_, rfl, _, rfl, (by show 2 ≤ sizeLine; decide), fun t ht => ⟨d1, t, [.inr (sB g), .inr (sB k)], xs, rfl, rfl, upd_same, t1, _, rfl, ?_⟩⟩
    have kt := same_new (Same.refl H) ht (.tup [.str (sB g), .str (sB k)])
    have hb := h1 g k
    cases e1 : Mx.byTok g k with
    | some l =>
      rw [e1] at hb
      obtain ⟨p1, a, us, ha, ku, gv⟩ := hb
      have hput : Mx.put g k = some l := by unfold Mx.put; rw [e1]
      rw [ha]
      refine ⟨_, rfl, _, rfl, (by show 2 ≤ sizeLine; decide), fun t2 ht2 => ⟨d1, t2, [.inr (sB g), .inr (sB k)], xs, (p1, .ref a), .ref a, rfl, rfl, upd_same, t1, ha, rfl, ?_⟩⟩
      have k1 := same_new kt ht2 (.tup [.str (sB g), .str (sB k)])
      refine ⟨_, rfl, a, us, rfl, .inr ⟨ku.sq _, RT.for_ItvT (K := K) (a := a) (xs := us) (fun i σ H2 => ∃ o5 : Option V, σ = [some (.ref gl), some (.str (sB g)), some (.str (sB k)), some (.int p), some (.ref a), o5] ∧ But gl H H2 ∧ H2 gl = some (.lst (bs ++ us.reverse.take i)))
        ⟨none, rfl, Bd.Same.but k1, by rw [List.take_zero, List.append_nil]; exact k1 _ _ hg⟩ (fun i σ H2 _ => ku.sq _) (fun i y σ H2 hi hy h => ?_) (fun σ H2 h => ?_)⟩⟩
      · obtain ⟨o5, rfl, bt, hgl⟩ := h
        have hy' : us.reverse[i]? = some y := by rw [List.getElem?_reverse hi]; exact hy
        have lu : us.length ≤ 8 := by rw [← gv.length]; exact (put_short hput).1
        refine ⟨_, rfl, .inl ⟨rfl, _, .inl (.inl hgl)⟩, _, rfl, gl, _, _, rfl, rfl, hgl, ?_, some y, rfl, bt.upd _, ?_⟩
        · have : sizeLine = 16777216 := sizeLine_eq
          rw [List.length_append]
          have := List.length_take_le i us.reverse
          rw [List.length_take, List.length_reverse]
          omega
        · rw [upd_same, List.take_add_one, hy', Option.toList_some, List.append_assoc]
      · obtain ⟨o5, rfl, bt, hgl⟩ := h
        rw [show us.length = us.reverse.length by simp, List.take_length] at hgl
        exact hO l hput H2 us bt gv hgl
    | none =>
      rw [e1] at hb
      rw [hb]
      have hr := h2 g
      refine ⟨_, rfl, d2, .inr (sB g), fn, rfl, rfl, t2, _, rfl, ?_⟩
      cases e2 : Mx.byRule g with
      | some l =>
        rw [e2] at hr
        obtain ⟨a, us, ha, ku, gv⟩ := hr
        have hput : Mx.put g k = some l := by unfold Mx.put; rw [e1]; exact e2
        rw [ha]
        refine ⟨_, rfl, d2, .inr (sB g), fn, _, .ref a, rfl, rfl, t2, ha, rfl, ?_⟩
        refine ⟨_, rfl, a, us, rfl, .inr ⟨ku.sq _, RT.for_ItvT (K := K) (a := a) (xs := us) (fun i σ H2 => ∃ o5 : Option V, σ = [some (.ref gl), some (.str (sB g)), some (.str (sB k)), some (.int p), some (.ref a), o5] ∧ But gl H H2 ∧ H2 gl = some (.lst (bs ++ us.reverse.take i)))
          ⟨none, rfl, Bd.Same.but kt, by rw [List.take_zero, List.append_nil]; exact kt _ _ hg⟩ (fun i σ H2 _ => ku.sq _) (fun i y σ H2 hi hy h => ?_) (fun σ H2 h => ?_)⟩⟩
        · obtain ⟨o5, rfl, bt, hgl⟩ := h
          have hy' : us.reverse[i]? = some y := by rw [List.getElem?_reverse hi]; exact hy
          have lu : us.length ≤ 8 := by rw [← gv.length]; exact (put_short hput).1
          refine ⟨_, rfl, .inl ⟨rfl, _, .inl (.inl hgl)⟩, _, rfl, gl, _, _, rfl, rfl, hgl, ?_, some y, rfl, bt.upd _, ?_⟩
          · have : sizeLine = 16777216 := sizeLine_eq
            rw [List.length_append]
            have := List.length_take_le i us.reverse
            rw [List.length_take, List.length_reverse]
            omega
          · rw [upd_same, List.take_add_one, hy', Option.toList_some, List.append_assoc]
        · obtain ⟨o5, rfl, bt, hgl⟩ := h
          rw [show us.length = us.reverse.length by simp, List.take_length] at hgl
          exact hO l hput H2 us bt gv hgl
      | none =>
        rw [e2] at hr
        rw [hr]
        have hput : Mx.put g k = none := by unfold Mx.put; rw [e1]; exact e2
        exact ⟨_, rfl, _, rfl, fun d hd => hE hput _ kt d hd⟩
end
end Bd
end
section
set_option Elab.async false
set_option linter.all false
set_option maxRecDepth 100000
set_option maxHeartbeats 4000000
set_option autoImplicit false
namespace Bd
open PySem PySem.Spec PyProof.Rows L2
/-! ## what was made, as it stands -/
def MadeAt (H : Hp) : V → Mx.Made → Prop
  | v, .num n => v = .int n
  | v, .name b => v = .str (sB b)
  | v, .exp e => ∃ a, v = .ref a ∧ XsAt H a (Mx.postE e)
  | v, .cond c => ∃ a, v = .ref a ∧ XsAt H a (Mx.postC c)
  | v, .ag g => ∃ a, v = .ref a ∧ AgAt H a (Mx.post g)
theorem MadeAt.keeps {H H' : Hp} (k : Tk H H') {v : V} {m : Mx.Made} (h : MadeAt H v m) : MadeAt H' v m := by
  cases m with
  | num n => exact h
  | name b => exact h
  | exp e => obtain ⟨a, h1, h2⟩ := h; exact ⟨a, h1, h2.keeps k⟩
  | cond e => obtain ⟨a, h1, h2⟩ := h; exact ⟨a, h1, h2.keeps k⟩
  | ag e => obtain ⟨a, h1, h2⟩ := h; exact ⟨a, h1, h2.keeps k⟩
inductive MadesAt (H : Hp) : List V → List Mx.Made → Prop
  | nil : MadesAt H [] []
  | cons {v : V} {m : Mx.Made} {vs : List V} {ms : List Mx.Made} : MadeAt H v m → MadesAt H vs ms → MadesAt H (v :: vs) (m :: ms)
theorem MadesAt.keeps {H H' : Hp} (k : Tk H H') {vs : List V} {ms : List Mx.Made} (h : MadesAt H vs ms) : MadesAt H' vs ms := by
  induction h with
  | nil => exact .nil
  | cons e _ ih => exact .cons (e.keeps k) ih
theorem MadesAt.app {H : Hp} {vs us : List V} {ms ns : List Mx.Made} (h : MadesAt H vs ms) (h' : MadesAt H us ns) : MadesAt H (vs ++ us) (ms ++ ns) := by
  induction h with
  | nil => exact h'
  | cons e _ ih => exact .cons e ih
theorem MadesAt.length {H : Hp} {vs : List V} {ms : List Mx.Made} (h : MadesAt H vs ms) : vs.length = ms.length := by
  induction h with
  | nil => rfl
  | cons _ _ ih => simp [ih]
theorem MadesAt.split {H : Hp} : ∀ {vs : List V} {ms ns : List Mx.Made}, MadesAt H vs (ms ++ ns) → ∃ a b, vs = a ++ b ∧ MadesAt H a ms ∧ MadesAt H b ns
  | vs, [], ns, h => ⟨[], vs, rfl, .nil, h⟩
  | vs, m :: ms, ns, h => by
    cases h with
    | cons e h =>
      obtain ⟨a, b, rfl, h1, h2⟩ := MadesAt.split h
      exact ⟨_ :: a, b, rfl, .cons e h1, h2⟩
def szM : Mx.Made → Nat
  | .exp e => (Mx.postE e).length | .cond c => (Mx.postC c).length | .ag g => (Mx.post g).length | _ => 0
def binE : Mx.Op2 → Co01.Exp → Co01.Exp → Co01.Exp
  | .add => .add | .sub => .sub | .mul => .mul | .max => .max | .min => .min
def cmpC : Mx.Cmp → Co01.Exp → Co01.Exp → Co01.Cond
  | .less => .less | .same => .same | .more => .more
/-- a step made: its word, its parts, its detail, what it is -/
inductive MK : Co01.Bytes → List Mx.Made → Option Mx.Made → Mx.Made → Prop
  | number (n : Nat) : MK (Co01.ascii "number") [] (some (.num n)) (.exp (.num n))
  | name (b : Co01.Bytes) : MK (Co01.ascii "name") [] (some (.name b)) (.exp (.name b))
  | neg (a : Co01.Exp) : MK (Co01.ascii "negative") [.exp a] none (.exp (.neg a))
  | bin (o : Mx.Op2) (a b : Co01.Exp) : MK (Mx.wdO o) [.exp a, .exp b] none (.exp (binE o a b))
  | cmp (o : Mx.Cmp) (a b : Co01.Exp) : MK (Mx.wdK o) [.exp a, .exp b] none (.cond (cmpC o a b))
  | not (a : Co01.Cond) : MK (Co01.ascii "not") [.cond a] none (.cond (.not a))
  | cand (a b : Co01.Cond) : MK (Co01.ascii "&") [.cond a, .cond b] none (.cond (.and a b))
  | cor (a b : Co01.Cond) : MK (Co01.ascii "|") [.cond a, .cond b] none (.cond (.or a b))
  | nothing : MK (Co01.ascii "nothing") [] none (.ag .nothing)
  | pay (e : Co01.Exp) : MK (Co01.ascii "pay") [] (some (.exp e)) (.ag (.pay e))
  | give (a : Co01.Ag) : MK (Co01.ascii "give") [.ag a] none (.ag (.give a))
  | at_ (k : Nat) (a : Co01.Ag) : MK (Co01.ascii "at") [.ag a] (some (.num k)) (.ag (.at_ k a))
  | may (k : Nat) (a : Co01.Ag) : MK (Co01.ascii "may") [.ag a] (some (.num k)) (.ag (.may k a))
  | if_ (c : Co01.Cond) (a b : Co01.Ag) : MK (Co01.ascii "if") [.ag a, .ag b] (some (.cond c)) (.ag (.if_ c a b))
  | times (e : Co01.Exp) (a : Co01.Ag) : MK (Co01.ascii "times") [.ag a] (some (.exp e)) (.ag (.times e a))
  | halt_ (c : Co01.Cond) (a : Co01.Ag) : MK (Co01.ascii "stop") [.ag a] (some (.cond c)) (.ag (.halt_ c a))
  | both (a b : Co01.Ag) : MK (Co01.ascii "and") [.ag a, .ag b] none (.ag (.both a b))
  | or (a b : Co01.Ag) : MK (Co01.ascii "or") [.ag a, .ag b] none (.ag (.or a b))
  | else_ (a b : Co01.Ag) : MK (Co01.ascii "else") [.ag a, .ag b] none (.ag (.else_ a b))
theorem make_inv {w : Co01.Bytes} {l l' : List Mx.Made} (h : Mx.make w l = some l') : ∃ ps d r l0, MK w ps d r ∧ l = ps.reverse ++ (d.toList ++ l0) ∧ l' = r :: l0 := by
  unfold Mx.make at h
  rcases Mx.ite_some h with ⟨rfl, h1⟩ | ⟨_, h⟩
  · split at h1 <;> cases h1; exact ⟨[], _, _, _, .number _, rfl, rfl⟩
  rcases Mx.ite_some h with ⟨rfl, h1⟩ | ⟨_, h⟩
  · split at h1 <;> cases h1; exact ⟨[], _, _, _, .name _, rfl, rfl⟩
  rcases Mx.ite_some h with ⟨rfl, h1⟩ | ⟨_, h⟩
  · split at h1 <;> cases h1; exact ⟨[_], none, _, _, .neg _, rfl, rfl⟩
  rcases Mx.ite_some h with ⟨rfl, h1⟩ | ⟨_, h⟩
  · split at h1 <;> cases h1; exact ⟨[_, _], none, _, _, .bin .add _ _, rfl, rfl⟩
  rcases Mx.ite_some h with ⟨rfl, h1⟩ | ⟨_, h⟩
  · split at h1 <;> cases h1; exact ⟨[_, _], none, _, _, .bin .sub _ _, rfl, rfl⟩
  rcases Mx.ite_some h with ⟨rfl, h1⟩ | ⟨_, h⟩
  · split at h1 <;> cases h1; exact ⟨[_, _], none, _, _, .bin .mul _ _, rfl, rfl⟩
  rcases Mx.ite_some h with ⟨rfl, h1⟩ | ⟨_, h⟩
  · split at h1 <;> cases h1; exact ⟨[_, _], none, _, _, .bin .max _ _, rfl, rfl⟩
  rcases Mx.ite_some h with ⟨rfl, h1⟩ | ⟨_, h⟩
  · split at h1 <;> cases h1; exact ⟨[_, _], none, _, _, .bin .min _ _, rfl, rfl⟩
  rcases Mx.ite_some h with ⟨rfl, h1⟩ | ⟨_, h⟩
  · split at h1 <;> cases h1; exact ⟨[_, _], none, _, _, .cmp .less _ _, rfl, rfl⟩
  rcases Mx.ite_some h with ⟨rfl, h1⟩ | ⟨_, h⟩
  · split at h1 <;> cases h1; exact ⟨[_, _], none, _, _, .cmp .same _ _, rfl, rfl⟩
  rcases Mx.ite_some h with ⟨rfl, h1⟩ | ⟨_, h⟩
  · split at h1 <;> cases h1; exact ⟨[_, _], none, _, _, .cmp .more _ _, rfl, rfl⟩
  rcases Mx.ite_some h with ⟨rfl, h1⟩ | ⟨_, h⟩
  · split at h1 <;> cases h1; exact ⟨[_], none, _, _, .not _, rfl, rfl⟩
  rcases Mx.ite_some h with ⟨rfl, h1⟩ | ⟨_, h⟩
  · split at h1 <;> cases h1; exact ⟨[_, _], none, _, _, .cand _ _, rfl, rfl⟩
  rcases Mx.ite_some h with ⟨rfl, h1⟩ | ⟨_, h⟩
  · split at h1 <;> cases h1; exact ⟨[_, _], none, _, _, .cor _ _, rfl, rfl⟩
  rcases Mx.ite_some h with ⟨rfl, h1⟩ | ⟨_, h⟩
  · cases h1; exact ⟨[], none, _, _, .nothing, rfl, rfl⟩
  rcases Mx.ite_some h with ⟨rfl, h1⟩ | ⟨_, h⟩
  · split at h1 <;> cases h1; exact ⟨[], _, _, _, .pay _, rfl, rfl⟩
  rcases Mx.ite_some h with ⟨rfl, h1⟩ | ⟨_, h⟩
  · split at h1 <;> cases h1; exact ⟨[_], none, _, _, .give _, rfl, rfl⟩
  rcases Mx.ite_some h with ⟨rfl, h1⟩ | ⟨_, h⟩
  · split at h1 <;> cases h1; exact ⟨[_], some _, _, _, .at_ _ _, rfl, rfl⟩
  rcases Mx.ite_some h with ⟨rfl, h1⟩ | ⟨_, h⟩
  · split at h1 <;> cases h1; exact ⟨[_], some _, _, _, .may _ _, rfl, rfl⟩
  rcases Mx.ite_some h with ⟨rfl, h1⟩ | ⟨_, h⟩
  · split at h1 <;> cases h1; exact ⟨[_, _], some _, _, _, .if_ _ _ _, rfl, rfl⟩
  rcases Mx.ite_some h with ⟨rfl, h1⟩ | ⟨_, h⟩
  · split at h1 <;> cases h1; exact ⟨[_], some _, _, _, .times _ _, rfl, rfl⟩
  rcases Mx.ite_some h with ⟨rfl, h1⟩ | ⟨_, h⟩
  · split at h1 <;> cases h1; exact ⟨[_], some _, _, _, .halt_ _ _, rfl, rfl⟩
  rcases Mx.ite_some h with ⟨rfl, h1⟩ | ⟨_, h⟩
  · split at h1 <;> cases h1; exact ⟨[_, _], none, _, _, .both _ _, rfl, rfl⟩
  rcases Mx.ite_some h with ⟨rfl, h1⟩ | ⟨_, h⟩
  · split at h1 <;> cases h1; exact ⟨[_, _], none, _, _, .or _ _, rfl, rfl⟩
  rcases Mx.ite_some h with ⟨rfl, h1⟩ | ⟨_, h⟩
  · split at h1 <;> cases h1; exact ⟨[_, _], none, _, _, .else_ _ _, rfl, rfl⟩
  cases h
theorem mk_count {w : Co01.Bytes} {ps : List Mx.Made} {d : Option Mx.Made} {r : Mx.Made} (h : MK w ps d r) : (sB w, ps.length) ∈ COUNTS := by
  have all : ∀ z : String × Nat, (z ∈ [("number", 0), ("name", 0), ("negative", 1), ("+", 2), ("-", 2), ("*", 2), ("max", 2), ("min", 2), ("<", 2), ("=", 2), (">", 2), ("not", 1), ("&", 2), ("|", 2),
    ("nothing", 0), ("pay", 0), ("give", 1), ("at", 1), ("may", 1), ("if", 2), ("times", 1), ("stop", 1), ("and", 2), ("or", 2), ("else", 2)]) → (sB (Co01.ascii z.1), z.2) ∈ COUNTS := by decide +kernel
  cases h with
  | bin o a b => cases o <;> first | exact all ("+", 2) (by decide) | exact all ("-", 2) (by decide) | exact all ("*", 2) (by decide) | exact all ("max", 2) (by decide) | exact all ("min", 2) (by decide)
  | cmp o a b => cases o <;> first | exact all ("<", 2) (by decide) | exact all ("=", 2) (by decide) | exact all (">", 2) (by decide)
  | number n => exact all ("number", 0) (by decide)
  | name n => exact all ("name", 0) (by decide)
  | neg n => exact all ("negative", 1) (by decide)
  | not n => exact all ("not", 1) (by decide)
  | cand a b => exact all ("&", 2) (by decide)
  | cor a b => exact all ("|", 2) (by decide)
  | nothing => exact all ("nothing", 0) (by decide)
  | pay e => exact all ("pay", 0) (by decide)
  | give e => exact all ("give", 1) (by decide)
  | at_ k e => exact all ("at", 1) (by decide)
  | may k e => exact all ("may", 1) (by decide)
  | if_ c a b => exact all ("if", 2) (by decide)
  | times e a => exact all ("times", 1) (by decide)
  | halt_ e a => exact all ("stop", 1) (by decide)
  | both a b => exact all ("and", 2) (by decide)
  | or a b => exact all ("or", 2) (by decide)
  | else_ a b => exact all ("else", 2) (by decide)
theorem mk_with {w : Co01.Bytes} {ps : List Mx.Made} {d : Option Mx.Made} {r : Mx.Made} (h : MK w ps d r) : inV (.str (sB w)) (WITHD.map V.str) = d.isSome := by
  cases h with
  | bin o a b => cases o <;> (show inV (.str (sB (Co01.ascii _))) _ = false; decide +kernel)
  | cmp o a b => cases o <;> (show inV (.str (sB (Co01.ascii _))) _ = false; decide +kernel)
  | number n => show inV _ _ = true; decide +kernel
  | name n => show inV _ _ = true; decide +kernel
  | neg n => show inV _ _ = false; decide +kernel
  | not n => show inV _ _ = false; decide +kernel
  | cand a b => show inV _ _ = false; decide +kernel
  | cor a b => show inV _ _ = false; decide +kernel
  | nothing => show inV _ _ = false; decide +kernel
  | pay e => show inV _ _ = true; decide +kernel
  | give e => show inV _ _ = false; decide +kernel
  | at_ k e => show inV _ _ = true; decide +kernel
  | may k e => show inV _ _ = true; decide +kernel
  | if_ c a b => show inV _ _ = true; decide +kernel
  | times e a => show inV _ _ = true; decide +kernel
  | halt_ e a => show inV _ _ = true; decide +kernel
  | both a b => show inV _ _ = false; decide +kernel
  | or a b => show inV _ _ = false; decide +kernel
  | else_ a b => show inV _ _ = false; decide +kernel
theorem wordX_eq (x : Mx.XS) : wordX x = sB (Mx.wdX x) := by
  cases x with
  | bin o => cases o <;> decide +kernel
  | cmp o => cases o <;> decide +kernel
  | num n => show Str.ofString "number" = sB (Co01.ascii "number"); decide +kernel
  | name n => show Str.ofString "name" = sB (Co01.ascii "name"); decide +kernel
  | neg => decide +kernel
  | not => decide +kernel
  | and => decide +kernel
  | or => decide +kernel
theorem xsTup_eq (x : Mx.XS) : xsTup x = [.str (sB (Mx.wdX x)), detX x] := by unfold xsTup; rw [wordX_eq]
/-- a detail, or none -/
def DetM (H : Hp) : Option Mx.Made → V → Prop
  | none, v => v = .non
  | some m, v => MadeAt H v m
/-- what joined is handed, and what it gives -/
def Joins (H : Hp) (vs : List V) (w : Co01.Bytes) (d : Option Mx.Made) (r : Mx.Made) (n : Nat) : Prop := ∃ (as : List Addr) (xss : List (List V)), vs = as.map V.ref ∧ Tups H as xss ∧ xss.flatten.length = n ∧
  ∀ (H' : Hp), Tk H H' → ∀ (b p : Addr) (dv : V), H' b = some (.tup [.str (sB w), dv]) → DetM H' d dv → H' p = some (.tup (xss.flatten ++ [.ref b])) → MadeAt H' (.ref p) r
theorem joins_xs0 {H : Hp} {w : Co01.Bytes} {d : Option Mx.Made} {r : Mx.Made} (x : Mx.XS) (hw : w = Mx.wdX x) (hd : ∀ H' dv, DetM H' d dv → dv = detX x) (hr : ∀ H' p, XsAt H' p [x] → MadeAt H' (.ref p) r) : Joins H [] w d r 0 :=
  ⟨[], [], rfl, .nil, rfl, fun H' k b p dv hb hdv hp => hr H' p ⟨[b], hp, .cons (by rw [xsTup_eq, ← hw, ← hd H' dv hdv]; exact hb) .nil⟩⟩
theorem joins_xs1 {H : Hp} {w : Co01.Bytes} {r : Mx.Made} {a : Addr} {s : List Mx.XS} (x : Mx.XS) (h : XsAt H a s) (hw : w = Mx.wdX x) (hx : detX x = .non) (hr : ∀ H' p, XsAt H' p (s ++ [x]) → MadeAt H' (.ref p) r) : Joins H [.ref a] w none r s.length := by
  obtain ⟨as, h1, h2⟩ := h
  refine ⟨[a], [as.map V.ref], rfl, .cons h1 .nil, by simp [h2.length], fun H' k b p dv hb hdv hp => hr H' p ⟨as ++ [b], by rw [hp]; simp, ?_⟩⟩
  rw [List.map_append]
  have hdv : dv = .non := hdv
  exact (h2.keeps k).app (.cons (by rw [xsTup_eq, ← hw, hx, ← hdv]; exact hb) .nil)
theorem joins_xs2 {H : Hp} {w : Co01.Bytes} {r : Mx.Made} {a c : Addr} {s u : List Mx.XS} (x : Mx.XS) (h : XsAt H a s) (h' : XsAt H c u) (hw : w = Mx.wdX x) (hx : detX x = .non) (hr : ∀ H' p, XsAt H' p (s ++ u ++ [x]) → MadeAt H' (.ref p) r) : Joins H [.ref a, .ref c] w none r (s.length + u.length) := by
  obtain ⟨as, h1, h2⟩ := h
  obtain ⟨cs, h3, h4⟩ := h'
  refine ⟨[a, c], [as.map V.ref, cs.map V.ref], rfl, .cons h1 (.cons h3 .nil), by simp [h2.length, h4.length], fun H' k b p dv hb hdv hp => hr H' p ⟨as ++ cs ++ [b], by rw [hp]; simp, ?_⟩⟩
  rw [List.map_append, List.map_append]
  have hdv : dv = .non := hdv
  exact ((h2.keeps k).app (h4.keeps k)).app (.cons (by rw [xsTup_eq, ← hw, hx, ← hdv]; exact hb) .nil)
theorem joins_ag0 {H : Hp} {w : Co01.Bytes} {d : Option Mx.Made} {r : Mx.Made} (x : Mx.St) (hw : w = x.w) (hd : ∀ H' dv, DetM H' d dv → DetAt H' x.d dv) (hr : ∀ H' p, AgAt H' p [x] → MadeAt H' (.ref p) r) : Joins H [] w d r 0 :=
  ⟨[], [], rfl, .nil, rfl, fun H' k b p dv hb hdv hp => hr H' p ⟨[.ref b], hp, .cons ⟨b, dv, rfl, by rw [← hw]; exact hb, hd H' dv hdv⟩ .nil⟩⟩
theorem joins_ag1 {H : Hp} {w : Co01.Bytes} {d : Option Mx.Made} {r : Mx.Made} {a : Addr} {s : List Mx.St} (x : Mx.St) (h : AgAt H a s) (hw : w = x.w) (hd : ∀ H' dv, DetM H' d dv → DetAt H' x.d dv) (hr : ∀ H' p, AgAt H' p (s ++ [x]) → MadeAt H' (.ref p) r) : Joins H [.ref a] w d r s.length := by
  obtain ⟨us, h1, h2⟩ := h
  refine ⟨[a], [us], rfl, .cons h1 .nil, by simp [h2.length], fun H' k b p dv hb hdv hp => hr H' p ⟨us ++ [.ref b], by rw [hp]; simp, ?_⟩⟩
  exact (h2.keeps k).app (.cons ⟨b, dv, rfl, by rw [← hw]; exact hb, hd H' dv hdv⟩ .nil)
theorem joins_ag2 {H : Hp} {w : Co01.Bytes} {d : Option Mx.Made} {r : Mx.Made} {a c : Addr} {s u : List Mx.St} (x : Mx.St) (h : AgAt H a s) (h' : AgAt H c u) (hw : w = x.w) (hd : ∀ H' dv, DetM H' d dv → DetAt H' x.d dv) (hr : ∀ H' p, AgAt H' p (s ++ u ++ [x]) → MadeAt H' (.ref p) r) : Joins H [.ref a, .ref c] w d r (s.length + u.length) := by
  obtain ⟨us, h1, h2⟩ := h
  obtain ⟨vs, h3, h4⟩ := h'
  refine ⟨[a, c], [us, vs], rfl, .cons h1 (.cons h3 .nil), by simp [h2.length, h4.length], fun H' k b p dv hb hdv hp => hr H' p ⟨us ++ vs ++ [.ref b], by rw [hp]; simp, ?_⟩⟩
  exact ((h2.keeps k).app (h4.keeps k)).app (.cons ⟨b, dv, rfl, by rw [← hw]; exact hb, hd H' dv hdv⟩ .nil)
theorem mades0 {H : Hp} {vs : List V} (h : MadesAt H vs []) : vs = [] := by cases h; rfl
theorem mades1 {H : Hp} {vs : List V} {m : Mx.Made} (h : MadesAt H vs [m]) : ∃ v, vs = [v] ∧ MadeAt H v m := by
  cases h with
  | cons e h => cases h; exact ⟨_, rfl, e⟩
theorem mades2 {H : Hp} {vs : List V} {m n : Mx.Made} (h : MadesAt H vs [m, n]) : ∃ v u, vs = [v, u] ∧ MadeAt H v m ∧ MadeAt H u n := by
  cases h with
  | cons e h => cases h with
    | cons e2 h => cases h; exact ⟨_, _, rfl, e, e2⟩
theorem mk_joins {H : Hp} {vs : List V} {w : Co01.Bytes} {ps : List Mx.Made} {d : Option Mx.Made} {r : Mx.Made} (h : MK w ps d r) (hp : MadesAt H vs ps) : Joins H vs w d r (ps.map szM).sum := by
  cases h with
  | number n => obtain rfl := mades0 hp; exact joins_xs0 (.num n) rfl (fun _ _ h => h) (fun H' p h => ⟨p, rfl, h⟩)
  | name n => obtain rfl := mades0 hp; exact joins_xs0 (.name n) rfl (fun _ _ h => h) (fun H' p h => ⟨p, rfl, h⟩)
  | neg a => obtain ⟨_, rfl, x, rfl, hx⟩ := mades1 hp; exact joins_xs1 .neg hx rfl rfl (fun H' p h => ⟨p, rfl, h⟩)
  | not a => obtain ⟨_, rfl, x, rfl, hx⟩ := mades1 hp; exact joins_xs1 .not hx rfl rfl (fun H' p h => ⟨p, rfl, h⟩)
  | bin o a b =>
    obtain ⟨_, _, rfl, ⟨x, rfl, hx⟩, y, rfl, hy⟩ := mades2 hp
    exact joins_xs2 (.bin o) hx hy rfl rfl (fun H' p h => ⟨p, rfl, by cases o <;> exact h⟩)
  | cmp o a b =>
    obtain ⟨_, _, rfl, ⟨x, rfl, hx⟩, y, rfl, hy⟩ := mades2 hp
    exact joins_xs2 (.cmp o) hx hy rfl rfl (fun H' p h => ⟨p, rfl, by cases o <;> exact h⟩)
  | cand a b =>
    obtain ⟨_, _, rfl, ⟨x, rfl, hx⟩, y, rfl, hy⟩ := mades2 hp
    exact joins_xs2 .and hx hy rfl rfl (fun H' p h => ⟨p, rfl, h⟩)
  | cor a b =>
    obtain ⟨_, _, rfl, ⟨x, rfl, hx⟩, y, rfl, hy⟩ := mades2 hp
    exact joins_xs2 .or hx hy rfl rfl (fun H' p h => ⟨p, rfl, h⟩)
  | nothing => obtain rfl := mades0 hp; exact joins_ag0 (Mx.st "nothing") rfl (fun _ _ h => h) (fun H' p h => ⟨p, rfl, h⟩)
  | pay e => obtain rfl := mades0 hp; exact joins_ag0 (Mx.st "pay" (.exp e)) rfl (fun _ _ h => h) (fun H' p h => ⟨p, rfl, h⟩)
  | give a => obtain ⟨_, rfl, x, rfl, hx⟩ := mades1 hp; exact joins_ag1 (Mx.st "give") hx rfl (fun _ _ h => h) (fun H' p h => ⟨p, rfl, h⟩)
  | at_ k a => obtain ⟨_, rfl, x, rfl, hx⟩ := mades1 hp; exact joins_ag1 (Mx.st "at" (.num k)) hx rfl (fun _ _ h => h) (fun H' p h => ⟨p, rfl, h⟩)
  | may k a => obtain ⟨_, rfl, x, rfl, hx⟩ := mades1 hp; exact joins_ag1 (Mx.st "may" (.num k)) hx rfl (fun _ _ h => h) (fun H' p h => ⟨p, rfl, h⟩)
  | times e a => obtain ⟨_, rfl, x, rfl, hx⟩ := mades1 hp; exact joins_ag1 (Mx.st "times" (.exp e)) hx rfl (fun _ _ h => h) (fun H' p h => ⟨p, rfl, h⟩)
  | halt_ c a => obtain ⟨_, rfl, x, rfl, hx⟩ := mades1 hp; exact joins_ag1 (Mx.st "stop" (.cond c)) hx rfl (fun _ _ h => h) (fun H' p h => ⟨p, rfl, h⟩)
  | if_ c a b =>
    obtain ⟨_, _, rfl, ⟨x, rfl, hx⟩, y, rfl, hy⟩ := mades2 hp
    exact joins_ag2 (Mx.st "if" (.cond c)) hx hy rfl (fun _ _ h => h) (fun H' p h => ⟨p, rfl, h⟩)
  | both a b =>
    obtain ⟨_, _, rfl, ⟨x, rfl, hx⟩, y, rfl, hy⟩ := mades2 hp
    exact joins_ag2 (Mx.st "and") hx hy rfl (fun _ _ h => h) (fun H' p h => ⟨p, rfl, h⟩)
  | or a b =>
    obtain ⟨_, _, rfl, ⟨x, rfl, hx⟩, y, rfl, hy⟩ := mades2 hp
    exact joins_ag2 (Mx.st "or") hx hy rfl (fun _ _ h => h) (fun H' p h => ⟨p, rfl, h⟩)
  | else_ a b =>
    obtain ⟨_, _, rfl, ⟨x, rfl, hx⟩, y, rfl, hy⟩ := mades2 hp
    exact joins_ag2 (Mx.st "else") hx hy rfl (fun _ _ h => h) (fun H' p h => ⟨p, rfl, h⟩)
theorem mk_size {w : Co01.Bytes} {ps : List Mx.Made} {d : Option Mx.Made} {r : Mx.Made} (h : MK w ps d r) : szM r ≤ (ps.map szM).sum + 1 := by
  cases h with
  | bin o a b => cases o <;> simp [szM, binE, Mx.postE] <;> omega
  | cmp o a b => cases o <;> simp [szM, cmpC, Mx.postC] <;> omega
  | _ => simp [szM, Mx.postE, Mx.postC, Mx.post] <;> omega
section
variable {P : Program} {w : World} {K : PySem.W.Frag} {mg : Str → Option Value} {base : Heap} {f : Addr} {fd : FuncData}
/-! ## make_step -/
abbrev sMake : Stmt := top 35
def spMake : Sp := fun vs H Q _ => ∃ (word : Co01.Bytes) (md : Addr) (l l' : List Mx.Made) (ms : List V), vs = [.str (sB word), .ref md] ∧ Mx.make word l = some l' ∧ H md = some (.lst ms) ∧ MadesAt H ms l.reverse ∧ (l.map szM).sum ≤ 9000 ∧ l.length ≤ 9000 ∧
  ∀ (H' : Hp) (ms' : List V), But md H H' → H' md = some (.lst ms') → MadesAt H' ms' l'.reverse → Q .non H'
theorem scMake : FnScope ["word", "made", "parts", "detail"] ["word", "made"] (defScope sMake) := ⟨rfl, rfl, rfl, by decide +kernel, rfl, by decide +kernel, by decide +kernel⟩
theorem ok_make {f1 f2 : Addr} {fd1 fd2 : FuncData} (F : FnP K "make_step" sMake f fd) (gW : TupG K mg "WITH_DETAIL" (WITHD.map V.str))
    (F1 : FnP K "taken_parts" sTaken f1 fd1) (m1 : mg "taken_parts" = some (.ref f1)) (G1 : FnOk P w K mg base CX0 1 f1 fd1 ["stack", "word"] spTaken)
    (F2 : FnP K "joined" sJoin f2 fd2) (m2 : mg "joined" = some (.ref f2)) (G2 : FnOk P w K mg base CX0 1 f2 fd2 ["parts", "step"] spJoinL) :
    FnOk P w K mg base CX0 2 f fd ["word", "made"] spMake := by
  obtain ⟨a0, g0, t0⟩ := gW
  have b1 : Binds K fd1 ["stack", "word"] [] := F1.binds fun _ _ _ _ _ _ us hl => match us, hl with | [_, _], _ => rfl
  have b2 : Binds K fd2 ["parts", "step"] [] := F2.binds fun _ _ _ _ _ _ us hl => match us, hl with | [_, _], _ => rfl
  refine F.ok scMake (fun vs H Q E h => ?_) (fun cdv A outer s H vs Q E hr h => ⟨_, (pss_cons (ps_set (i := 2) scMake.nd rfl (.inl rfl) (pe_call G1 hr rfl m1 F1.kp b1 .nil pass0 (pa_cons (pv 1) (pa_cons (pv 0) pa_nil))))
    (pss_cons (ps_set (i := 3) scMake.nd rfl (.inl rfl) pe_non)
    (pss_cons (ps_if (pt_cmpR op_in_seq (pv 0) (pe_glob (v := .ref a0) (by rfl) g0 rfl) rfl) (pss_one (ps_set (i := 3) scMake.nd rfl (.inl rfl) (pe_bm0 PySem.F.plainAttrs_list PySem.F.slot_list_pop PySem.F.type_list_pop mt_pop (pv 1)))) pss_nil)
    (pss_one (ps_expr (pe_bm PySem.F.plainAttrs_list PySem.F.slot_list_append PySem.F.type_list_append mt_append (pv 1) (pa_cons (pe_call G2 hr rfl m2 F2.kp b2 .nil pass0 (pa_cons (pv 2) (pa_cons (pe_tup (pa_cons (pv 0) (pa_cons (pv 3) pa_nil))) pa_nil))) pa_nil))))))), ?_⟩)
  · obtain ⟨word, md, l, l', ms, rfl, _⟩ := h
    rfl
  · obtain ⟨word, md, l, l', ms, rfl, hm, hmd, ma, z1, z2, q⟩ := h
    obtain ⟨ps, d, r, l0, mk, rfl, rfl⟩ := make_inv hm
    rw [List.reverse_append, List.reverse_append, List.reverse_reverse] at ma
    obtain ⟨va, vps, rfl, ma1, map⟩ := ma.split
    obtain ⟨v0, vd, rfl, ma0, mad⟩ := ma1.split
    have lsum : (ps.map szM).sum ≤ 9000 := by
      have : ((ps.reverse ++ (d.toList ++ l0)).map szM).sum = (ps.map szM).sum + (((d.toList ++ l0)).map szM).sum := by simp
      omega
    have len0 : l0.length ≤ 9000 := by simp at z2; omega
    refine ⟨_, rfl, _, rfl, md, sB word, ps.length, v0 ++ vd, vps, rfl, mk_count mk, hmd, map.length, fun H1 p hp hp1 hmd1 bt => ?_⟩
    have nm : md ≠ p := fun z => by rw [z, hp] at hmd; cases hmd
    have tk1 : Tk H H1 := bt.tk hmd
    refine ⟨_, rfl, a0, WITHD.map V.str, rfl, .inr (t0 H1), rfl, rfl, _, rfl, ?_⟩
    have join : ∀ (H2 : Hp) (dv : V) (tt : Addr), But md H1 H2 → H2 md = some (.lst v0) → DetM H2 d dv → H2 tt = none → ∃ (as : List Addr) (xss : List (List V)), H1 p = some (.lst (as.map V.ref)) ∧ Tups (L2.upd H2 tt (.tup [.str (sB word), dv])) as xss ∧ xss.flatten.length ≤ 9000 ∧
        ∀ (H3 : Hp) (r' : Addr), Same (L2.upd H2 tt (.tup [.str (sB word), dv])) H3 → H3 r' = some (.tup (xss.flatten ++ [.ref tt])) → H3 md = some (.lst v0) ∧ But md H (L2.upd H3 md (.lst (v0 ++ [.ref r']))) ∧ MadesAt (L2.upd H3 md (.lst (v0 ++ [.ref r']))) (v0 ++ [.ref r']) (r :: l0).reverse := by
      intro H2 dv tt b12 hmd2 hd htt
      have tk2 : Tk H H2 := tk1.trans (b12.tk hmd1)
      have k23 : Same H2 (L2.upd H2 tt (.tup [.str (sB word), dv])) := same_new (Same.refl H2) htt _
      obtain ⟨as, xss, e1, e2, e3, e4⟩ := mk_joins mk (map.keeps tk2)
      refine ⟨as, xss, by rw [hp1, e1], e2.keeps (Bd.Same.tk k23), by omega, fun H3 r' k3 hr3 => ?_⟩
      have hmd3 := k3 _ _ (k23 _ _ hmd2)
      have tk3 : Tk H3 (L2.upd H3 md (.lst (v0 ++ [.ref r']))) := fun c u e => by rw [upd_ne (fun z => by rw [z, hmd3] at e; cases e)]; exact e
      refine ⟨hmd3, fun c u e n => ?_, ?_⟩
      · rw [upd_ne n]
        exact k3 _ _ (k23 _ _ (b12 _ _ (bt _ _ e n) n))
      · rw [List.reverse_cons]
        refine (ma0.keeps ((tk2.trans (Bd.Same.tk (k23.trans k3))).trans tk3)).app (.cons ?_ .nil)
        have dm : DetM H3 d dv := by
          cases d with
          | none => exact hd
          | some m => exact MadeAt.keeps (Bd.Same.tk (k23.trans k3)) hd
        exact (e4 H3 (Bd.Same.tk (k23.trans k3)) tt r' dv (k3 _ _ upd_same) dm hr3).keeps tk3
    rw [mk_with mk]
    cases d with
    | none =>
      have hvd : vd = [] := mades0 mad
      subst hvd
      rw [List.append_nil] at hmd1
      refine ⟨_, rfl, .inl ⟨rfl, _, .inl (.inl hmd1)⟩, _, rfl, _, rfl, _, rfl, (by show 2 ≤ sizeLine; decide), fun tt htt => ?_⟩
      obtain ⟨as, xss, j1, j2, j3, j4⟩ := join H1 .non tt (fun c u e n => e) hmd1 rfl htt
      refine ⟨p, .ref tt, as, xss, rfl, keepAt htt j1, j2, j3, fun H3 r' k3 hr3 => ?_⟩
      obtain ⟨a1, a2, a3⟩ := j4 H3 r' k3 hr3
      exact ⟨md, v0, _, rfl, rfl, a1, by rw [ma0.length, List.length_reverse]; exact small10k (by omega), q _ _ a2 upd_same a3⟩
    | some m =>
      obtain ⟨dv, rfl, hdv⟩ := mades1 mad
      refine ⟨_, rfl, .inl ⟨rfl, _, .inl (.inl hmd1)⟩, md, v0 ++ [dv], dv, rfl, rfl, hmd1, ?_, ?_⟩
      · rw [List.length_append, List.length_singleton, Nat.add_sub_cancel]; simp
      rw [List.dropLast_concat]
      have hmd2 : L2.upd H1 md (.lst v0) md = some (.lst v0) := upd_same
      have b12 : But md H1 (L2.upd H1 md (.lst v0)) := fun c u e n => by rw [upd_ne n]; exact e
      refine ⟨_, rfl, .inl ⟨rfl, _, .inl (.inl hmd2)⟩, _, rfl, _, rfl, _, rfl, (by show 2 ≤ sizeLine; decide), fun tt htt => ?_⟩
      obtain ⟨as, xss, j1, j2, j3, j4⟩ := join _ dv tt b12 hmd2 (MadeAt.keeps (tk1.trans (b12.tk hmd1)) hdv) htt
      refine ⟨p, .ref tt, as, xss, rfl, keepAt htt (by rw [upd_ne nm.symm]; exact j1), j2, j3, fun H3 r' k3 hr3 => ?_⟩
      obtain ⟨a1, a2, a3⟩ := j4 H3 r' k3 hr3
      exact ⟨md, v0, _, rfl, rfl, a1, by rw [ma0.length, List.length_reverse]; exact small10k (by omega), q _ _ a2 upd_same a3⟩
end
end Bd
end
section
set_option Elab.async false
set_option linter.all false
set_option maxRecDepth 100000
set_option maxHeartbeats 4000000
set_option autoImplicit false
namespace Bd
open PySem PySem.Spec PyProof.Rows L2
/-! ## a token's kind, value, place -/
def valT : Co01.Tok → V
  | .word u => .str (sB u)
  | .num n => .int n
  | .sign c => .str (sB [c])
def valR : Co01.Rest → V
  | [] => .str ""
  | x :: _ => valT x.2
theorem kindOf_eq (u : Co01.Bytes) : kindOf u = sB (Mx.kindOf (.word u)) := by
  show (if Co01.isName u = true then Str.ofString "name" else sB u) = sB (if Co01.isName u = true then Co01.ascii "name" else u)
  by_cases c : Co01.isName u = true
  · rw [if_pos c, if_pos c]; decide +kernel
  · rw [if_neg c, if_neg c]
theorem tokTup_eq (x : Nat × Co01.Tok) : tokTup x = [.str (sB (Mx.kindOf x.2)), valT x.2, .int x.1] := by
  obtain ⟨p, t⟩ := x
  cases t with
  | word u => show [V.str (kindOf u), _, _] = _; rw [kindOf_eq]; rfl
  | num n =>
    show [V.str (Str.ofString "number"), V.int n, V.int p] = [V.str (sB (Co01.ascii "number")), V.int n, V.int p]
    rw [show Str.ofString "number" = sB (Co01.ascii "number") by decide +kernel]
  | sign c => rfl
/-- the token that comes -/
theorem tok_at {H : Hp} {as : List Addr} {toks : Co01.Rest} {e : Nat} (h : Tups H as (toks.map tokTup ++ [endTup e])) {i : Nat} (hi : i ≤ toks.length) :
    ∃ b, as[i]? = some b ∧ H b = some (.tup [.str (sB (Mx.kindAt (toks.drop i))), valR (toks.drop i), .int (Co01.placeOf e (toks.drop i))]) := by
  have hl := h.length
  simp at hl
  have hb : ∃ b, as[i]? = some b := ⟨as[i]'(by omega), List.getElem?_eq_getElem (by omega)⟩
  obtain ⟨b, hb⟩ := hb
  have hv : (as.map V.ref)[i]? = some (.ref b) := by rw [List.getElem?_map, hb]; rfl
  obtain ⟨a, x, ea, hx, hH⟩ := h.at_ hv
  cases ea
  refine ⟨b, hb, ?_⟩
  rw [hH]
  by_cases c : i < toks.length
  · rw [List.getElem?_append_left (by simpa using c), List.getElem?_map, List.getElem?_eq_getElem c] at hx
    obtain rfl := Option.some.inj hx
    rw [List.drop_eq_getElem_cons c, tokTup_eq]
    rfl
  · have : i = toks.length := by omega
    subst this
    rw [List.getElem?_append_right (by simp)] at hx
    simp at hx
    subst hx
    rw [List.drop_length]
    show some (HO.tup [V.str (Str.ofString "end"), .str "", .int e]) = some (.tup [.str (sB (Co01.ascii "end")), .str "", .int e])
    rw [show Str.ofString "end" = sB (Co01.ascii "end") by decide +kernel]
/-- what a token puts there -/
theorem val_of {H : Hp} (r : Co01.Rest) (made : List Mx.Made) : (inV (.str (sB (Mx.kindAt r))) [.str "number", .str "name"] = true ∧ ∃ m, Mx.valOf r made = m :: made ∧ MadeAt H (valR r) m ∧ szM m = 0) ∨ (inV (.str (sB (Mx.kindAt r))) [.str "number", .str "name"] = false ∧ Mx.valOf r made = made) := by
  have no : ∀ w : Co01.Bytes, w ≠ Co01.ascii "name" → w ≠ Co01.ascii "number" → inV (.str (sB w)) [.str "number", .str "name"] = false := fun w h1 h2 => by
    show (((Str.ofString "number" == sB w) : Bool) || ((Str.ofString "name" == sB w) || false)) = false
    rw [show Str.ofString "number" = sB (Co01.ascii "number") by decide +kernel, show Str.ofString "name" = sB (Co01.ascii "name") by decide +kernel]
    have e1 : (sB (Co01.ascii "number") == sB w) = false := by
      rw [beq_eq_false_iff_ne]; exact fun q => h2 (sB_inj.mp q).symm
    have e2 : (sB (Co01.ascii "name") == sB w) = false := by
      rw [beq_eq_false_iff_ne]; exact fun q => h1 (sB_inj.mp q).symm
    rw [e1, e2]; rfl
  cases r with
  | nil => exact .inr ⟨no _ (by decide) (by decide), rfl⟩
  | cons x t =>
    obtain ⟨p, tk⟩ := x
    cases tk with
    | num n => exact .inl ⟨by show inV (.str (sB (Co01.ascii "number"))) _ = true; decide +kernel, .num n, rfl, rfl, rfl⟩
    | sign c => exact .inr ⟨no _ (fun q => by have := congrArg List.length q; simp [Mx.kindAt, Mx.kindOf, Co01.ascii] at this) (fun q => by have := congrArg List.length q; simp [Mx.kindAt, Mx.kindOf, Co01.ascii] at this), rfl⟩
    | word u =>
      by_cases hn : Co01.isName u = true
      · refine .inl ⟨?_, .name u, ?_, rfl, rfl⟩
        · show inV (.str (sB (if Co01.isName u = true then _ else _))) _ = true
          rw [if_pos hn]; decide +kernel
        · show (if Co01.isName u = true then _ else _) = _
          rw [if_pos hn]
      · refine .inr ⟨?_, ?_⟩
        · show inV (.str (sB (if Co01.isName u = true then _ else _))) _ = false
          rw [if_neg hn]
          have := Mx.words_len (Mx.words_not_name (by simpa using hn))
          exact no _ this.1 this.2.1
        · show (if Co01.isName u = true then _ else _) = _
          rw [if_neg hn]
/-! ## what remains of the reading -/
def Rem (e : Nat) : Except Nat Co01.Ag → Nat → Mx.PS → Prop
  | .ok a, m, q => Mx.Goes e m q ⟨[], [.ag a], []⟩
  | .error x, m, q => Mx.Falls e m q x
theorem rem_cases {e : Nat} {res : Except Nat Co01.Ag} {m : Nat} {q : Mx.PS} (h : Rem e res m q) : (m = 0 ∧ (match res with | .ok a => q = ⟨[], [.ag a], []⟩ | .error x => Mx.move e q = .fault x)) ∨ ∃ m' q', m = m' + 1 ∧ Mx.move e q = .next q' ∧ Rem e res m' q' := by
  cases res with
  | ok a =>
    have h : Mx.Goes e m q ⟨[], [.ag a], []⟩ := h
    cases h with
    | here => exact .inl ⟨rfl, rfl⟩
    | turn h g => exact .inr ⟨_, _, rfl, h, g⟩
  | error x =>
    obtain ⟨r, g, f⟩ := h
    cases g with
    | here => exact .inl ⟨rfl, f⟩
    | turn h g => exact .inr ⟨_, _, rfl, h, ⟨r, g, f⟩⟩
/-- the end's goal lies at the bottom alone -/
def EndAt (goals : List Mx.G) : Prop := goals = [] ∨ ∃ g', goals = g' ++ [Mx.s "end"] ∧ Mx.s "end" ∉ g'
theorem EndAt.tail {g : Mx.G} {gs : List Mx.G} (h : EndAt (g :: gs)) : EndAt gs ∧ (g = Mx.s "end" → gs = []) := by
  rcases h with h | ⟨g', h, hn⟩
  · cases h
  · cases g' with
    | nil => cases h; exact ⟨.inl rfl, fun _ => rfl⟩
    | cons x g' =>
      cases h
      refine ⟨.inr ⟨g', rfl, fun q => hn (by simp [q])⟩, fun q => absurd (by rw [q]; simp) hn⟩
theorem EndAt.put {gs l : List Mx.G} (h : EndAt gs) (hg : gs ≠ []) (hl : Mx.s "end" ∉ l) : EndAt (l ++ gs) := by
  rcases h with h | ⟨g', h, hn⟩
  · exact absurd h hg
  · exact .inr ⟨l ++ g', by rw [h, List.append_assoc], fun q => (List.mem_append.mp q).elim hl hn⟩
section
variable {P : Program} {w : World} {K : PySem.W.Frag} {mg : Str → Option Value} {base : Heap} {f : Addr} {fd : FuncData}
/-! ## agreement_of -/
abbrev sAgr : Stmt := top 33
def spAgr (C : Addr) : Sp := fun vs H Q E => ∃ (t : Addr) (toks : Co01.Rest) (e n : Nat) (res : Except Nat Co01.Ag), vs = [.ref t] ∧ TokL H t toks e ∧ toks.length ≤ 1000 ∧ n ≤ 8000 ∧ Rem e res n (Mx.start toks) ∧
  (match res with
    | .ok a => ∀ (H' : Hp) (p : Addr), Same H H' → AgAt H' p (Mx.post a) → Q (.ref p) H'
    | .error x => ∀ H', Same H H' → faultAt C E H' x)
theorem scAgr : FnScope ["tokens", "goals", "made", "next_token", "goal", "kind", "value", "place"] ["tokens"] (defScope sAgr) := ⟨rfl, rfl, rfl, by decide +kernel, rfl, by decide +kernel, by decide +kernel⟩
theorem ok_agr {C f1 f2 : Addr} {fd1 fd2 : FuncData} (F : FnP K "agreement_of" sAgr f fd) (gI : mg "isinstance" = none) (gT : mg "tuple" = none)
    (F1 : FnP K "make_step" sMake f1 fd1) (m1 : mg "make_step" = some (.ref f1)) (G1 : FnOk P w K mg base CX0 2 f1 fd1 ["word", "made"] spMake)
    (F2 : FnP K "put_goals" sPut f2 fd2) (m2 : mg "put_goals" = some (.ref f2)) (G2 : FnOk P w K mg base (L2N.CX P w) 3 f2 fd2 ["goals", "goal", "kind", "place"] (spPut C K)) :
    FnOk P w K mg base (L2N.CX P w) 4 f fd ["tokens"] (spAgr C) := by
  have b1 : Binds K fd1 ["word", "made"] [] := F1.binds fun _ _ _ _ _ _ us hl => match us, hl with | [_, _], _ => rfl
  have b2 : Binds K fd2 ["goals", "goal", "kind", "place"] [] := F2.binds fun _ _ _ _ _ _ us hl => match us, hl with | [_, _, _, _], _ => rfl
  refine F.okXN scAgr (fun vs H Q E h => ?_) (fun cdv A outer s H vs Q E hr h => ⟨_, (pss_cons (ps_set (i := 1) scAgr.nd rfl (.inl rfl) (pe_lst (pa_cons pe_str (pa_cons pe_str pa_nil))))
    (pss_cons (ps_set (i := 2) scAgr.nd rfl (.inl rfl) (pe_lst pa_nil))
    (pss_cons (ps_set (i := 3) scAgr.nd rfl (.inl rfl) pe_int)
    (pss_cons (ps_while (passes_of rfl) (pt_truth (pv 1) (by intro _; rfl))
      (pss_cons (ps_set (i := 4) scAgr.nd rfl (.inl rfl) (pe_bm0 PySem.F.plainAttrs_list PySem.F.slot_list_pop PySem.F.type_list_pop mt_pop (pv 1)))
      (pss_cons (ps_asg (pe_ix ix_list (pv 0) (pv 3) (fun _ _ => rfl)) (pg_tup rfl (pgs_cons (pg_name (i := 5) scAgr.nd rfl (.inl rfl)) (pgs_cons (pg_name (i := 6) scAgr.nd rfl (.inl rfl)) (pgs_cons (pg_name (i := 7) scAgr.nd rfl (.inl rfl)) pgs_nil)))))
      (pss_one (ps_if (pt_val (pe_callB call_isi rfl gI (by decide +kernel) (pa_cons (pv 4) (pa_cons (pe_bltn (v := .ty "tuple") rfl gT (by decide +kernel) rfl) pa_nil))))
        (pss_one (ps_expr (pe_call (G1.mono (by decide)) hr rfl m1 F1.kp b1 .nil pass0 (pa_cons (pe_ix ix_tup (pv 4) pe_int (fun _ _ => rfl)) (pa_cons (pv 2) pa_nil)))))
        (pss_one (ps_if (pt_cmpR op_eq (pv 4) (pv 5) (nomark _))
          (pss_cons (ps_aug (i := 3) scAgr.nd rfl (.inl rfl) pe_int ip_add)
            (pss_one (ps_if (pt_cmpR op_in_seq (pv 5) (pe_tup (pa_cons pe_str (pa_cons pe_str pa_nil))) rfl) (pss_one (ps_expr (pe_bm PySem.F.plainAttrs_list PySem.F.slot_list_append PySem.F.type_list_append mt_append (pv 2) (pa_cons (pv 6) pa_nil)))) pss_nil)))
          (pss_one (ps_expr (pe_call G2 hr rfl m2 F2.kp b2 .nil (L2N.passes_call (L2N.takes_of rfl rfl rfl rfl) (fun _ _ _ _ h => h)) (pa_cons (pv 1) (pa_cons (pv 4) (pa_cons (pv 5) (pa_cons (pv 7) pa_nil))))))))))))))
    (pss_one (ps_ret (pe_ix ix_list (pv 2) pe_int (fun _ _ => rfl)))))))), ?_⟩)
  · obtain ⟨t, toks, e, n, res, rfl, _⟩ := h
    rfl
  · obtain ⟨t, toks, e, n, res, rfl, ⟨as, ht, tu⟩, tl, nl, rem, q⟩ := h
    have sl : sizeLine = 16777216 := sizeLine_eq
    refine ⟨(by show 2 ≤ sizeLine; decide), fun gl hgl => ⟨(by show 0 ≤ sizeLine; decide), fun md hmd => ?_⟩⟩
    have mg' : md ≠ gl := fun z => by rw [z, upd_same] at hmd; cases hmd
    have k0 : Same H (L2.upd (L2.upd H gl (.lst [.str "end", .str "agreement"])) md (.lst [])) := same_new (same_new (Same.refl H) hgl _) hmd _
    have hmd0 : H md = none := by rw [upd_ne mg'] at hmd; exact hmd
    refine ⟨fun mz σ H1 => ∃ (ps : Mx.PS) (m k nt : Nat) (gv ms : List V) (o4 o5 o6 o7 : Option V), mz = m ∧ σ = [some (.ref t), some (.ref gl), some (.ref md), some (.int nt), o4, o5, o6, o7] ∧ Same H H1 ∧ H1 gl = some (.lst gv) ∧ GoalsV K ps.goals.reverse gv ∧ H1 md = some (.lst ms) ∧ MadesAt H1 ms ps.made.reverse ∧
        Rem e res m ps ∧ k + m ≤ 8000 ∧ (ps.made.map szM).sum ≤ k ∧ ps.made.length ≤ k ∧ ps.goals.length ≤ 8 * k + 2 ∧ (ps.goals = [] ∨ (ps.toks = toks.drop nt ∧ nt ≤ toks.length)) ∧ EndAt ps.goals,
      ⟨n, Mx.start toks, n, 0, 0, _, _, none, none, none, none, rfl, rfl, k0, by rw [upd_ne mg'.symm]; exact upd_same, ?_, upd_same, .nil, rem, by omega, Nat.zero_le _, Nat.zero_le _, Nat.le_refl _, .inr ⟨rfl, Nat.zero_le _⟩, .inr ⟨[Mx.s "agreement"], rfl, by decide⟩⟩, ?_⟩
    · show Paired (GoalV K) [Mx.s "end", Mx.s "agreement"] _
      exact .cons (by show _ = V.str (sB (Co01.ascii "end")); exact congrArg V.str (by decide +kernel)) (.cons (by show _ = V.str (sB (Co01.ascii "agreement")); exact congrArg V.str (by decide +kernel)) .nil)
    · rintro mz σ H1 ⟨ps, m, k, nt, gv, ms, o4, o5, o6, o7, rfl, rfl, kk, hg1, gok, hm1, mok, rm, z1, z2, z3, z4, tok, ea⟩
      obtain ⟨goals, made, tks⟩ := ps
      dsimp only at gok mok rm z2 z3 z4 tok ea
      refine ⟨_, rfl, _, .inl ⟨gv, .inl (.inl hg1), rfl⟩, ?_⟩
      cases goals with
      | nil =>
        have hgv : gv = [] := by cases gok; rfl
        subst hgv
        -- the end
        rcases rem_cases rm with ⟨_, h⟩ | ⟨_, _, _, h, _⟩
        · cases res with
          | error x => cases h
          | ok a =>
            dsimp only at h q
            injection h with h1 h2 h3
            subst h2
            obtain ⟨v, rfl, p, rfl, hp⟩ := mades1 mok
            exact ⟨_, rfl, md, _, _, .ref p, rfl, rfl, .inl (.inl hm1), rfl, q H1 p kk hp⟩
        · cases h
      | cons g gs =>
        rw [List.reverse_cons] at gok
        obtain ⟨gv0, vg, rfl, gok0, hvg⟩ : ∃ gv0 vg, gv = gv0 ++ [vg] ∧ GoalsV K gs.reverse gv0 ∧ GoalV K g vg := by
          have : ∀ {l : List Mx.G} {vs : List V} {g : Mx.G}, GoalsV K (l ++ [g]) vs → ∃ a b, vs = a ++ [b] ∧ GoalsV K l a ∧ GoalV K g b := by
            intro l
            induction l with
            | nil => intro vs g h; cases h with | cons e h => cases h; exact ⟨[], _, rfl, .nil, e⟩
            | cons x l ih => intro vs g h; cases h with | cons e h => obtain ⟨a, b, rfl, h1, h2⟩ := ih h; exact ⟨_ :: a, b, rfl, .cons e h1, h2⟩
          exact this gok
        have ne : (!(gv0 ++ [vg]).isEmpty) = true := by cases gv0 <;> rfl
        rw [ne]
        refine ⟨_, fun _ _ h => h, ?_⟩
        rcases tok with h | ⟨rfl, hnt⟩
        · cases h
        obtain ⟨b, hb1, hb2⟩ := tok_at tu hnt
        have gt : gl ≠ t := fun z => by rw [← z, hgl] at ht; cases ht
        have mt : md ≠ t := fun z => by rw [← z, hmd0] at ht; cases ht
        -- the goal taken
        refine ⟨_, rfl, .inl ⟨rfl, _, .inl (.inl hg1)⟩, gl, gv0 ++ [vg], vg, rfl, rfl, hg1, ?_, ?_⟩
        · rw [List.length_append, List.length_singleton, Nat.add_sub_cancel]; simp
        rw [List.dropLast_concat]
        generalize hH2 : L2.upd H1 gl (.lst gv0) = H2
        have hg2 : H2 gl = some (.lst gv0) := by rw [← hH2]; exact upd_same
        have hm2 : H2 md = some (.lst ms) := by rw [← hH2, upd_ne mg']; exact hm1
        have k2 : Same H H2 := fun c u e => by rw [← hH2, upd_ne (fun z => by rw [z, hgl] at e; cases e)]; exact kk _ _ e
        have tk12 : Tk H1 H2 := fun c u e => by rw [← hH2, upd_ne (fun z => by rw [z, hg1] at e; cases e)]; exact e
        have mok2 := mok.keeps tk12
        -- the token
        refine ⟨_, rfl, _, rfl, t, _, _, .ref b, rfl, rfl, .inl (.inl (k2 _ _ ht)), atI_nat (by rw [List.getElem?_map, hb1]; rfl), b, _, rfl, .inl (.inl (k2 _ _ hb2)), rfl, _, _, rfl, _, _, rfl, _, _, rfl, rfl, ?_⟩
        cases g with
        | mk wd =>
          obtain ⟨ga, rfl, ku⟩ := hvg
          refine ⟨_, rfl, _, _, _, _, true, rfl, .ty "tuple", ku.ty _, kit_ty (by decide +kernel), _, rfl, ?_⟩
          rcases rem_cases rm with ⟨_, h⟩ | ⟨m', q', rfl, h, rm'⟩
          · cases res with
            | ok a => cases h
            | error x =>
              have h' : (match Mx.make wd made with | some l => Mx.Out.next ⟨gs, l, toks.drop nt⟩ | none => .stuck) = .fault x := h
              cases hm : Mx.make wd made with
              | none => rw [hm] at h'; cases h'
              | some l => rw [hm] at h'; cases h'
          · have h' : (match Mx.make wd made with | some l => Mx.Out.next ⟨gs, l, toks.drop nt⟩ | none => .stuck) = .next q' := h
            cases hm : Mx.make wd made with
            | none => rw [hm] at h'; cases h'
            | some l =>
              rw [hm] at h'
              injection h' with h'
              subst h'
              obtain ⟨pps, d, r, l0, mk, e1, e2⟩ := make_inv hm
              have s1 : (l.map szM).sum ≤ k + 1 := by
                have := mk_size mk
                rw [e1] at z2
                simp at z2
                rw [e2]; simp; omega
              have s2 : l.length ≤ k + 1 := by
                rw [e1] at z3
                simp at z3
                rw [e2]; simp; omega
              refine ⟨_, rfl, ga, _, _, .str (sB wd), rfl, rfl, ku.sq _, rfl, _, rfl, wd, md, made, l, ms, rfl, hm, hm2, mok2, by omega, by omega, fun H3 ms' bt hm3 mok3 => ?_⟩
              refine ⟨_, ?_, ⟨gs, l, toks.drop nt⟩, m', k + 1, nt, gv0, ms', _, _, _, _, rfl, rfl, ?_, bt _ _ hg2 mg'.symm, gok0, hm3, mok3, rm', by omega, s1, s2, ?_, .inr ⟨rfl, hnt⟩, ea.tail.1⟩
              · omega
              · intro c u e
                exact bt _ _ (k2 _ _ e) (fun z => by rw [z, hmd0] at e; cases e)
              · simp at z4; dsimp only; omega
        | sym z =>
          have hvg : vg = .str (sB z) := hvg
          subst hvg
          refine ⟨_, rfl, _, _, _, _, false, rfl, .ty "tuple", .base (.str _), kit_ty (by decide +kernel), _, rfl, ?_⟩
          refine ⟨_, rfl, _, rfl, rfl, _, rfl, ?_⟩
          by_cases hz : z = Mx.kindAt (toks.drop nt)
          · refine if_eq (by rw [hz]) ?_
            have hmv : Mx.move e ⟨.sym z :: gs, made, toks.drop nt⟩ = .next ⟨gs, Mx.valOf (toks.drop nt) made, (toks.drop nt).tail⟩ := Mx.mv_tok hz.symm
            rcases rem_cases rm with ⟨_, h⟩ | ⟨m', q', rfl, h, rm'⟩
            · cases res with
              | ok a => cases h
              | error x => dsimp only at h; rw [hmv] at h; cases h
            · rw [hmv] at h
              injection h with h
              subst h
              have tok' : gs = [] ∨ ((toks.drop nt).tail = toks.drop (nt + 1) ∧ nt + 1 ≤ toks.length) := by
                by_cases c : nt < toks.length
                · exact .inr ⟨by rw [List.tail_drop], by omega⟩
                · have : toks.drop nt = [] := List.drop_eq_nil_of_le (by omega)
                  rw [this] at hz
                  exact .inl (ea.tail.2 (by rw [hz]; rfl))
              refine ⟨_, rfl, _, _, rfl, rfl, ?_⟩
              refine ⟨_, rfl, (by show 2 ≤ sizeLine; decide), fun t1 ht1 => ⟨t1, _, rfl, .inr (.inl (.inl upd_same)), rfl, rfl, _, rfl, ?_⟩⟩
              have k3 : Same H (L2.upd H2 t1 (.tup [.str "number", .str "name"])) := same_new k2 ht1 _
              have tk3 : Tk H2 (L2.upd H2 t1 (.tup [.str "number", .str "name"])) := Bd.Same.tk (same_new (Same.refl H2) ht1 _)
              rcases val_of (H := L2.upd (L2.upd H2 t1 (.tup [.str "number", .str "name"])) md (.lst (ms ++ [valR (toks.drop nt)]))) (toks.drop nt) made with ⟨i1, mm, v1, v2, v3⟩ | ⟨i1, v1⟩
              · refine if_in i1 ⟨_, rfl, .inl ⟨rfl, _, .inl (.inl (keepAt ht1 hm2))⟩, _, rfl, md, ms, _, rfl, rfl, keepAt ht1 hm2, ?_, ?_⟩
                · rw [mok.length, List.length_reverse]; exact small10k (by omega)
                have tk4 : Tk (L2.upd H2 t1 (.tup [.str "number", .str "name"])) (L2.upd (L2.upd H2 t1 (.tup [.str "number", .str "name"])) md (.lst (ms ++ [valR (toks.drop nt)]))) := fun c u e => by rw [upd_ne (fun z => by rw [z, keepAt ht1 hm2] at e; cases e)]; exact e
                refine ⟨_, ?_, ⟨gs, _, _⟩, m', k + 1, nt + 1, gv0, ms ++ [valR (toks.drop nt)], _, _, _, _, rfl, rfl, ?_, by rw [upd_ne mg'.symm]; exact keepAt ht1 hg2, gok0, upd_same, ?_, rm', by omega, ?_, ?_, ?_, tok', ea.tail.1⟩
                · omega
                · intro c u e
                  rw [upd_ne (fun z => by rw [z, hmd0] at e; cases e)]
                  exact k3 _ _ e
                · dsimp only
                  rw [v1, List.reverse_cons]
                  exact (mok2.keeps (tk3.trans tk4)).app (.cons v2 .nil)
                · dsimp only; rw [v1]; simp; omega
                · dsimp only; rw [v1]; simp; omega
                · simp at z4; dsimp only; omega
              · refine if_out i1 ?_
                refine ⟨_, ?_, ⟨gs, _, _⟩, m', k + 1, nt + 1, gv0, ms, _, _, _, _, rfl, rfl, k3, keepAt ht1 hg2, gok0, keepAt ht1 hm2, ?_, rm', by omega, ?_, ?_, ?_, tok', ea.tail.1⟩
                · omega
                · dsimp only; rw [v1]; exact mok2.keeps tk3
                · dsimp only; rw [v1]; omega
                · dsimp only; rw [v1]; omega
                · simp at z4; dsimp only; omega
          · refine if_ne (by rw [beq_eq_false_iff_ne]; exact fun q => hz (sB_inj.mp q)) ?_
            have hmv : Mx.move e ⟨.sym z :: gs, made, toks.drop nt⟩ = match Mx.put z (Mx.kindAt (toks.drop nt)) with | some l => .next ⟨l ++ gs, made, toks.drop nt⟩ | none => .fault (Co01.placeOf e (toks.drop nt)) := by
              show (if z = _ then _ else _) = _
              rw [if_neg hz]
              all_goals rfl
            have lg : gv0.length ≤ 100000 := by rw [← gok0.length, List.length_reverse]; simp at z4; omega
            refine ⟨_, rfl, _, rfl, _, rfl, _, rfl, gl, z, Mx.kindAt (toks.drop nt), _, gv0, rfl, hg2, lg, fun l hl H3 us bt gu hg3 => ?_, fun hp H3 k3 => ?_⟩
            · rw [hl] at hmv
              rcases rem_cases rm with ⟨_, h⟩ | ⟨m', q', rfl, h, rm'⟩
              · cases res with
                | ok a => cases h
                | error x => dsimp only at h; rw [hmv] at h; cases h
              · rw [hmv] at h
                injection h with h
                subst h
                obtain ⟨l8, lne⟩ := put_short hl
                have gne : gs ≠ [] := fun q => by
                  rcases ea with h | ⟨g', h, hn⟩
                  · cases h
                  · rw [q] at h
                    cases g' with
                    | nil =>
                      injection h with h
                      injection h with h
                      subst h
                      have : ∀ k, Mx.put (Co01.ascii "end") k = none := fun k => by
                        have h1 : Mx.only (Co01.ascii "end") Mx.BYTOK = [] := by decide +kernel
                        exact (Mx.put_or (by rw [h1]; rfl)).trans (by decide +kernel)
                      rw [this] at hl; cases hl
                    | cons y g' => cases g' <;> cases h
                refine ⟨_, ?_, ⟨l ++ gs, made, toks.drop nt⟩, m', k + 1, nt, gv0 ++ us.reverse, ms, _, _, _, _, rfl, rfl, ?_, hg3, ?_, bt _ _ hm2 mg', mok2.keeps (bt.tk hg2), rm', by omega, by dsimp only; omega, by dsimp only; omega, ?_, .inr ⟨rfl, hnt⟩, ea.tail.1.put gne lne⟩
                · omega
                · intro c u e
                  exact bt _ _ (k2 _ _ e) (fun z => by rw [z, hgl] at e; cases e)
                · dsimp only; rw [List.reverse_append]; exact gok0.app gu.rev
                · simp at z4 ⊢; omega
            · rw [hp] at hmv
              rcases rem_cases rm with ⟨_, h⟩ | ⟨m', q', rfl, h, rm'⟩
              · cases res with
                | ok a => cases h
                | error x =>
                  dsimp only at h q
                  rw [hmv] at h
                  injection h with h
                  subst h
                  exact q H3 (k2.trans k3)
              · rw [hmv] at h; cases h
end
end Bd
end
section
set_option Elab.async false
set_option linter.all false
set_option maxRecDepth 100000
set_option maxHeartbeats 4000000
set_option autoImplicit false
namespace Bd
open PySem PySem.Spec PyProof.Rows L2
/-! ## texts as bytes -/
theorem str_of (z : String) : Str.ofString z = sB (Co01.ascii z) := by
  rw [Str.ofString_eq_toList]; rfl
theorem sB_app (a b : Co01.Bytes) : sB a ++ sB b = sB (a ++ b) := by
  show Str.append (sB a) (sB b) = _
  simp [Str.append, sB]
theorem sB_nil : Str.empty = sB [] := rfl
theorem sB_len (b : Co01.Bytes) : (sB b).length = b.length := by simp [sB, Str.length]
theorem int_text (n : Nat) : Str.ofString (toString (n : Int)) = sB (Co01.ascii (toString n)) := by
  rw [str_of]; rfl
theorem if_str {w : Co01.Bytes} {z : String} {A B : Prop} (h1 : w = Co01.ascii z → A) (h2 : w ≠ Co01.ascii z → B) : if decide (V.str (sB w) = V.str (Str.ofString z)) = true then A else B := by
  by_cases c : w = Co01.ascii z
  · rw [if_pos]
    · exact h1 c
    · rw [decide_eq_true_eq, str_of, c]
  · rw [if_neg]
    · exact h2 c
    · rw [decide_eq_true_eq, str_of]
      exact fun q => c (sB_inj.mp (V.str.inj q))
theorem if_in2 {w : Co01.Bytes} {y z : String} {A B : Prop} (h1 : w = Co01.ascii y ∨ w = Co01.ascii z → A) (h2 : ¬ (w = Co01.ascii y ∨ w = Co01.ascii z) → B) :
    if (if false = true then !inV (.str (sB w)) [.str (Str.ofString y), .str (Str.ofString z)] else inV (.str (sB w)) [.str (Str.ofString y), .str (Str.ofString z)]) = true then A else B := by
  have e : inV (.str (sB w)) [.str (Str.ofString y), .str (Str.ofString z)] = decide (w = Co01.ascii y ∨ w = Co01.ascii z) := by
    show ((Str.ofString y == sB w) || ((Str.ofString z == sB w) || false)) = _
    rw [Bool.or_false, str_of, str_of, Bool.eq_iff_iff, Bool.or_eq_true, beq_iff_eq, beq_iff_eq, sB_inj, sB_inj, decide_eq_true_eq]
    exact ⟨fun h => h.elim (fun q => .inl q.symm) (fun q => .inr q.symm), fun h => h.elim (fun q => .inl q.symm) (fun q => .inr q.symm)⟩
  rw [if_neg Bool.false_ne_true, e]
  by_cases c : w = Co01.ascii y ∨ w = Co01.ascii z
  · rw [if_pos (decide_eq_true c)]; exact h1 c
  · rw [if_neg (by rw [decide_eq_true_eq]; exact c)]; exact h2 c
/-! ## the tables -/
def ClosG (w : World) (K : PySem.W.Frag) (mg : Str → Option Value) : Prop := ∃ d, mg "CLOSENESS" = some (.ref d) ∧ ∀ x ∈ Mx.WORDSW, KDct K w d (sB x) (.int (Mx.closeB x : Nat))
def KidsG (w : World) (K : PySem.W.Frag) (mg : Str → Option Value) : Prop := ∃ d, mg "PARTS_CLOSENESS" = some (.ref d) ∧ ∀ x ∈ Mx.WORDSW, ∃ a, KDct K w d (sB x) (.ref a) ∧ KTu K a ((Mx.kids x).map fun (n : Nat) => V.int n)
/-- what a detail's text is -/
def DText (Wr : Hp → Addr → Co01.Bytes → Prop) (H : Hp) (x : Co01.Bytes) (dv : V) (d : Co01.Bytes) : Prop :=
  ((x = Co01.ascii "number" ∨ x = Co01.ascii "at" ∨ x = Co01.ascii "may") → ∃ n : Nat, dv = .int n ∧ n.log2 < 1920 ∧ d = Co01.ascii (toString n)) ∧ (x = Co01.ascii "name" → dv = .str (sB d)) ∧
  ((x = Co01.ascii "pay" ∨ x = Co01.ascii "times" ∨ x = Co01.ascii "stop" ∨ x = Co01.ascii "if") → ∃ a, dv = .ref a ∧ Wr H a d)
def Stays (Wr : Hp → Addr → Co01.Bytes → Prop) : Prop := ∀ (H H' : Hp) (a : Addr) (d : Co01.Bytes), Nl H H' → Wr H a d → Wr H' a d
theorem DText.keeps {Wr : Hp → Addr → Co01.Bytes → Prop} (st : Stays Wr) {H H' : Hp} (k : Nl H H') {x : Co01.Bytes} {dv : V} {d : Co01.Bytes} (h : DText Wr H x dv d) : DText Wr H' x dv d :=
  ⟨h.1, h.2.1, fun q => by obtain ⟨a, h1, h2⟩ := h.2.2 q; exact ⟨a, h1, st _ _ _ _ k h2⟩⟩
section
variable {P : Program} {w : World} {K : PySem.W.Frag} {mg : Str → Option Value} {base : Heap} {f : Addr} {fd : FuncData}
/-! ## within_brackets -/
abbrev sBrack : Stmt := top 58
def spBrack : Sp := fun vs H Q _ => ∃ (x t : Co01.Bytes) (c : Nat), vs = [.str (sB x), .str (sB t), .int c] ∧ x ∈ Mx.WORDSW ∧ t.length ≤ 10000000 ∧ ∀ H', Same H H' → Q (.str (sB (Mx.withinB x t c))) H'
theorem scBrack : FnScope ["word", "text", "closeness"] ["word", "text", "closeness"] (defScope sBrack) := ⟨rfl, rfl, rfl, by decide +kernel, rfl, by decide +kernel, by decide +kernel⟩
theorem ok_brack (F : FnP K "within_brackets" sBrack f fd) (gC : ClosG w K mg) : FnOk P w K mg base CX0 1 f fd ["word", "text", "closeness"] spBrack := by
  obtain ⟨dC, mC, hC⟩ := gC
  refine F.ok scBrack (fun vs H Q E h => ?_) (fun cdv A outer s H vs Q E hr h => ⟨_, (pss_cons (ps_if (pt_cmpR op_ge (pe_ix ix_kdict (pe_glob (v := .ref dC) (by rfl) mC rfl) (pv 0) (fun _ _ => rfl)) (pv 2) (nomark _)) (pss_one (ps_ret (pv 1))) pss_nil)
    (pss_cons (ps_if (pt_cmpR op_in_seq (pv 0) (pe_tup (pa_cons pe_str (pa_cons pe_str pa_nil))) rfl) (pss_one (ps_ret (pe_joined (.cons pe_str (.cons (pe_fmt (pv 1)) (.cons pe_str .nil)))))) pss_nil)
    (pss_one (ps_ret (pe_joined (.cons pe_str (.cons (pe_fmt (pv 1)) (.cons pe_str .nil)))))))), ?_⟩)
  · obtain ⟨x, t, c, rfl, _⟩ := h
    rfl
  · obtain ⟨x, t, c, rfl, hx, ht, q⟩ := h
    have sl : sizeLine = 16777216 := sizeLine_eq
    refine ⟨_, rfl, dC, sB x, _, rfl, rfl, hC x hx, _, rfl, _, _, rfl, rfl, _, rfl, ?_⟩
    by_cases c1 : c ≤ Mx.closeB x
    · rw [decide_eq_true (show ((c : Nat) : Int) ≤ ((Mx.closeB x : Nat) : Int) by omega)]
      unfold Mx.withinB at q
      rw [if_pos c1] at q
      exact ⟨_, rfl, q H (Same.refl H)⟩
    · rw [decide_eq_false (show ¬ ((c : Nat) : Int) ≤ ((Mx.closeB x : Nat) : Int) by omega)]
      unfold Mx.withinB at q
      rw [if_neg c1] at q
      refine ⟨_, rfl, (by show 2 ≤ sizeLine; decide), fun t1 ht1 => ⟨t1, _, rfl, .inr (.inl (.inl upd_same)), rfl, rfl, _, rfl, ?_⟩⟩
      have k1 : Same H (L2.upd H t1 (.tup [.str "&", .str "|"])) := same_new (Same.refl H) ht1 _
      refine if_in2 (fun e => ?_) (fun e => ?_)
      · rw [if_pos e] at q
        refine ⟨_, rfl, ?_, _, rfl, .inl ⟨_, rfl, by rw [sB_len, sl]; omega, _, rfl, ?_, _, rfl, ?_, ?_⟩⟩
        · rw [sB_nil, str_of, sB_app, sB_len, sl]; simp [Co01.ascii]
        · rw [sB_nil, str_of, sB_app, sB_app, sB_len, sl]; simp [Co01.ascii]; omega
        · rw [sB_nil, str_of, str_of, sB_app, sB_app, sB_app, sB_len, sl]; simp [Co01.ascii]; omega
        · rw [sB_nil, str_of, str_of, sB_app, sB_app, sB_app]
          exact q _ k1
      · rw [if_neg e] at q
        refine ⟨_, rfl, ?_, _, rfl, .inl ⟨_, rfl, by rw [sB_len, sl]; omega, _, rfl, ?_, _, rfl, ?_, ?_⟩⟩
        · rw [sB_nil, str_of, sB_app, sB_len, sl]; simp [Co01.ascii]
        · rw [sB_nil, str_of, sB_app, sB_app, sB_len, sl]; simp [Co01.ascii]; omega
        · rw [sB_nil, str_of, str_of, sB_app, sB_app, sB_app, sB_len, sl]; simp [Co01.ascii]; omega
        · rw [sB_nil, str_of, str_of, sB_app, sB_app, sB_app]
          exact q _ k1
/-! ## written, as it is called -/
abbrev sWritten : Stmt := top 57
def spWr (Wr : Hp → Addr → Co01.Bytes → Prop) : Sp := fun vs H Q _ => ∃ (a : Addr) (z : Co01.Bytes), vs = [.ref a] ∧ Wr H a z ∧ ∀ H', Same H H' → Q (.str (sB z)) H'
/-! ## text_around_one -/
abbrev sOne : Stmt := top 60
def spOne (Wr : Hp → Addr → Co01.Bytes → Prop) : Sp := fun vs H Q _ => ∃ (x d t : Co01.Bytes) (dv : V), vs = [.str (sB x), dv, .str (sB t)] ∧ x.length ≤ 8 ∧ DText Wr H x dv d ∧ d.length + t.length ≤ 10000000 ∧
  x ≠ Co01.ascii "number" ∧ x ≠ Co01.ascii "name" ∧ x ≠ Co01.ascii "nothing" ∧ x ≠ Co01.ascii "pay" ∧ ∀ H', Same H H' → Q (.str (sB (Mx.stepTxt x d [t]))) H'
theorem scOne : FnScope ["word", "detail", "text", "reckoning"] ["word", "detail", "text"] (defScope sOne) := ⟨rfl, rfl, rfl, by decide +kernel, rfl, by decide +kernel, by decide +kernel⟩
theorem ok_one {k : Nat} {Wr : Hp → Addr → Co01.Bytes → Prop} {f1 : Addr} {fd1 : FuncData} (F : FnP K "text_around_one" sOne f fd)
    (F1 : FnP K "written" sWritten f1 fd1) (m1 : mg "written" = some (.ref f1)) (G1 : FnOk P w K mg base CX0 k f1 fd1 ["steps"] (spWr Wr)) (st : Stays Wr) :
    FnOk P w K mg base CX0 (k + 1) f fd ["word", "detail", "text"] (spOne Wr) := by
  have b1 : Binds K fd1 ["steps"] [] := F1.binds fun _ _ _ _ _ _ us hl => match us, hl with | [_], _ => rfl
  refine F.ok scOne (fun vs H Q E h => ?_) (fun cdv A outer s H vs Q E hr h => ⟨_, (pss_cons (ps_if (pt_cmpR op_eq (pv 0) pe_str (nomark _)) (pss_one (ps_ret (pe_joined (.cons pe_str (.cons (pe_fmt (pv 2)) .nil))))) pss_nil)
    (pss_cons (ps_if (pt_cmpR op_in_seq (pv 0) (pe_tup (pa_cons pe_str (pa_cons pe_str pa_nil))) rfl) (pss_one (ps_ret (pe_joined (.cons (pe_fmt (pv 0)) (.cons pe_str (.cons (pe_fmt (pv 1)) (.cons pe_str (.cons (pe_fmt (pv 2)) .nil)))))))) pss_nil)
    (pss_cons (ps_if (pt_cmpR op_in_seq (pv 0) (pe_tup (pa_cons pe_str (pa_cons pe_str pa_nil))) rfl)
      (pss_cons (ps_set (i := 3) scOne.nd rfl (.inl rfl) (pe_call G1 hr rfl m1 F1.kp b1 .nil pass0 (pa_cons (pv 1) pa_nil)))
        (pss_one (ps_ret (pe_joined (.cons (pe_fmt (pv 0)) (.cons pe_str (.cons (pe_fmt (pv 3)) (.cons pe_str (.cons (pe_fmt (pv 2)) .nil))))))))) pss_nil)
    (pss_one (ps_ret (pe_joined (.cons (pe_fmt (pv 0)) (.cons pe_str (.cons (pe_fmt (pv 2)) .nil))))))))), ?_⟩)
  · obtain ⟨x, d, t, dv, rfl, _⟩ := h
    rfl
  · obtain ⟨x, d, t, dv, rfl, xl, dt, len, n1, n2, n3, n4, q⟩ := h
    have sl : sizeLine = 16777216 := sizeLine_eq
    unfold Mx.stepTxt at q
    rw [if_neg (fun h => h.elim n1 n2), if_neg n3, if_neg n4] at q
    dsimp only at q
    refine ⟨_, rfl, rfl, _, rfl, if_str (fun e => ?_) (fun e1 => ?_)⟩
    · rw [if_pos e] at q
      refine ⟨_, rfl, ?_, _, rfl, .inl ⟨_, rfl, by rw [sB_len, sl]; omega, _, rfl, ?_, ?_⟩⟩
      · rw [sB_nil, str_of, sB_app, sB_len, sl]; simp [Co01.ascii]
      · rw [sB_nil, str_of, sB_app, sB_app, sB_len, sl]; simp [Co01.ascii]; omega
      · rw [sB_nil, str_of, sB_app, sB_app]
        exact q _ (Same.refl H)
    rw [if_neg e1] at q
    refine ⟨_, rfl, (by show 2 ≤ sizeLine; decide), fun t1 ht1 => ⟨t1, _, rfl, .inr (.inl (.inl upd_same)), rfl, rfl, _, rfl, ?_⟩⟩
    have k1 : Same H (L2.upd H t1 (.tup [.str "at", .str "may"])) := same_new (Same.refl H) ht1 _
    refine if_in2 (fun e => ?_) (fun e2 => ?_)
    · rw [if_pos e] at q
      obtain ⟨n, rfl, hn, rfl⟩ := dt.1 (e.elim (fun h => .inr (.inl h)) (fun h => .inr (.inr h)))
      refine ⟨_, rfl, .inl ⟨_, rfl, by rw [sB_len, sl]; omega, _, rfl, ?_, _, rfl, ?_, _, rfl, .inr ⟨_, rfl, hn, _, rfl, ?_, _, rfl, ?_, _, rfl, .inl ⟨_, rfl, by rw [sB_len, sl]; omega, _, rfl, ?_, ?_⟩⟩⟩⟩
      · rw [sB_nil, sB_app, sB_len, sl]; simp; omega
      · rw [sB_nil, str_of, sB_app, sB_app, sB_len, sl]; simp [Co01.ascii]; omega
      · rw [sB_nil, str_of, int_text, sB_app, sB_app, sB_app, sB_len, sl]; simp [Co01.ascii] at len ⊢; omega
      · rw [sB_nil, str_of, int_text, sB_app, sB_app, sB_app, sB_app, sB_len, sl]; simp [Co01.ascii] at len ⊢; omega
      · rw [sB_nil, str_of, int_text, sB_app, sB_app, sB_app, sB_app, sB_app, sB_len, sl]; simp [Co01.ascii] at len ⊢; omega
      · rw [sB_nil, str_of, int_text, sB_app, sB_app, sB_app, sB_app, sB_app]
        have := q _ k1
        simpa [Co01.ascii, tJs] using this
    rw [if_neg e2] at q
    refine ⟨_, rfl, (by show 2 ≤ sizeLine; decide), fun t2 ht2 => ⟨t2, _, rfl, .inr (.inl (.inl upd_same)), rfl, rfl, _, rfl, ?_⟩⟩
    have k2 := same_new k1 ht2 (.tup [.str "times", .str "stop"])
    refine if_in2 (fun e => ?_) (fun e3 => ?_)
    · rw [if_pos e] at q
      obtain ⟨a, rfl, wr⟩ := dt.2.2 (e.elim (fun h => .inr (.inl h)) (fun h => .inr (.inr (.inl h))))
      refine ⟨_, rfl, a, d, rfl, st _ _ _ _ (Bd.Same.nl k2) wr, fun H3 k3 => ?_⟩
      refine ⟨_, rfl, .inl ⟨_, rfl, by rw [sB_len, sl]; omega, _, rfl, ?_, _, rfl, ?_, _, rfl, .inl ⟨_, rfl, by rw [sB_len, sl]; omega, _, rfl, ?_, _, rfl, ?_, _, rfl, .inl ⟨_, rfl, by rw [sB_len, sl]; omega, _, rfl, ?_, ?_⟩⟩⟩⟩
      · rw [sB_nil, sB_app, sB_len, sl]; simp; omega
      · rw [sB_nil, str_of, sB_app, sB_app, sB_len, sl]; simp [Co01.ascii]; omega
      · rw [sB_nil, str_of, sB_app, sB_app, sB_app, sB_len, sl]; simp [Co01.ascii] at len ⊢; omega
      · rw [sB_nil, str_of, str_of, sB_app, sB_app, sB_app, sB_app, sB_len, sl]; simp [Co01.ascii] at len ⊢; omega
      · rw [sB_nil, str_of, str_of, sB_app, sB_app, sB_app, sB_app, sB_app, sB_len, sl]; simp [Co01.ascii] at len ⊢; omega
      · rw [sB_nil, str_of, str_of, sB_app, sB_app, sB_app, sB_app, sB_app]
        have := q _ (k2.trans k3)
        simpa [Co01.ascii, tJs] using this
    · rw [if_neg e3] at q
      refine ⟨_, rfl, .inl ⟨_, rfl, by rw [sB_len, sl]; omega, _, rfl, ?_, _, rfl, ?_, _, rfl, .inl ⟨_, rfl, by rw [sB_len, sl]; omega, _, rfl, ?_, ?_⟩⟩⟩
      · rw [sB_nil, sB_app, sB_len, sl]; simp; omega
      · rw [sB_nil, str_of, sB_app, sB_app, sB_len, sl]; simp [Co01.ascii]; omega
      · rw [sB_nil, str_of, sB_app, sB_app, sB_app, sB_len, sl]; simp [Co01.ascii] at len ⊢; omega
      · rw [sB_nil, str_of, sB_app, sB_app, sB_app]
        have := q _ k2
        simpa [Co01.ascii, tJs] using this
end
end Bd
end
section
set_option Elab.async false
set_option linter.all false
set_option maxRecDepth 100000
set_option maxHeartbeats 4000000
set_option autoImplicit false
namespace Bd
open PySem PySem.Spec PyProof.Rows L2
section
variable {P : Program} {w : World} {K : PySem.W.Frag} {mg : Str → Option Value} {base : Heap} {f : Addr} {fd : FuncData}
/-! ## text_around_two -/
abbrev sTwo : Stmt := top 61
def spTwo (Wr : Hp → Addr → Co01.Bytes → Prop) : Sp := fun vs H Q _ => ∃ (x d t u : Co01.Bytes) (dv : V), vs = [.str (sB x), dv, .str (sB t), .str (sB u)] ∧ x.length ≤ 8 ∧ DText Wr H x dv d ∧ d.length + t.length + u.length ≤ 10000000 ∧
  x ≠ Co01.ascii "number" ∧ x ≠ Co01.ascii "name" ∧ x ≠ Co01.ascii "nothing" ∧ x ≠ Co01.ascii "pay" ∧ ∀ H', Same H H' → Q (.str (sB (Mx.stepTxt x d [t, u]))) H'
theorem scTwo : FnScope ["word", "detail", "first", "second", "condition"] ["word", "detail", "first", "second"] (defScope sTwo) := ⟨rfl, rfl, rfl, by decide +kernel, rfl, by decide +kernel, by decide +kernel⟩
theorem ok_two {k : Nat} {Wr : Hp → Addr → Co01.Bytes → Prop} {f1 : Addr} {fd1 : FuncData} (F : FnP K "text_around_two" sTwo f fd)
    (F1 : FnP K "written" sWritten f1 fd1) (m1 : mg "written" = some (.ref f1)) (G1 : FnOk P w K mg base CX0 k f1 fd1 ["steps"] (spWr Wr)) (st : Stays Wr) :
    FnOk P w K mg base CX0 (k + 1) f fd ["word", "detail", "first", "second"] (spTwo Wr) := by
  have b1 : Binds K fd1 ["steps"] [] := F1.binds fun _ _ _ _ _ _ us hl => match us, hl with | [_], _ => rfl
  refine F.ok scTwo (fun vs H Q E h => ?_) (fun cdv A outer s H vs Q E hr h => ⟨_, (pss_cons (ps_if (pt_cmpR op_in_seq (pv 0) (pe_tup (pa_cons pe_str (pa_cons pe_str pa_nil))) rfl) (pss_one (ps_ret (pe_joined (.cons (pe_fmt (pv 0)) (.cons pe_str (.cons (pe_fmt (pv 2)) (.cons pe_str (.cons (pe_fmt (pv 3)) (.cons pe_str .nil))))))))) pss_nil)
    (pss_cons (ps_if (pt_cmpR op_eq (pv 0) pe_str (nomark _))
      (pss_cons (ps_set (i := 4) scTwo.nd rfl (.inl rfl) (pe_call G1 hr rfl m1 F1.kp b1 .nil pass0 (pa_cons (pv 1) pa_nil)))
        (pss_one (ps_ret (pe_joined (.cons pe_str (.cons (pe_fmt (pv 4)) (.cons pe_str (.cons (pe_fmt (pv 2)) (.cons pe_str (.cons (pe_fmt (pv 3)) .nil)))))))))) pss_nil)
    (pss_one (ps_ret (pe_joined (.cons (pe_fmt (pv 2)) (.cons pe_str (.cons (pe_fmt (pv 0)) (.cons pe_str (.cons (pe_fmt (pv 3)) .nil)))))))))), ?_⟩)
  · obtain ⟨x, d, t, u, dv, rfl, _⟩ := h
    rfl
  · obtain ⟨x, d, t, u, dv, rfl, xl, dt, len, n1, n2, n3, n4, q⟩ := h
    have sl : sizeLine = 16777216 := sizeLine_eq
    unfold Mx.stepTxt at q
    rw [if_neg (fun h => h.elim n1 n2), if_neg n3, if_neg n4] at q
    dsimp only at q
    refine ⟨_, rfl, (by show 2 ≤ sizeLine; decide), fun t1 ht1 => ⟨t1, _, rfl, .inr (.inl (.inl upd_same)), rfl, rfl, _, rfl, ?_⟩⟩
    have k1 : Same H (L2.upd H t1 (.tup [.str "max", .str "min"])) := same_new (Same.refl H) ht1 _
    refine if_in2 (fun e => ?_) (fun e1 => ?_)
    · rw [if_pos e] at q
      refine ⟨_, rfl, .inl ⟨_, rfl, by rw [sB_len, sl]; omega, _, rfl, ?_, _, rfl, ?_, _, rfl, .inl ⟨_, rfl, by rw [sB_len, sl]; omega, _, rfl, ?_, _, rfl, ?_, _, rfl, .inl ⟨_, rfl, by rw [sB_len, sl]; omega, _, rfl, ?_, _, rfl, ?_, ?_⟩⟩⟩⟩
      · rw [sB_nil, sB_app, sB_len, sl]; simp; omega
      · rw [sB_nil, str_of, sB_app, sB_app, sB_len, sl]; simp [Co01.ascii]; omega
      · rw [sB_nil, str_of, sB_app, sB_app, sB_app, sB_len, sl]; simp [Co01.ascii]; omega
      · rw [sB_nil, str_of, str_of, sB_app, sB_app, sB_app, sB_app, sB_len, sl]; simp [Co01.ascii]; omega
      · rw [sB_nil, str_of, str_of, sB_app, sB_app, sB_app, sB_app, sB_app, sB_len, sl]; simp [Co01.ascii]; omega
      · rw [sB_nil, str_of, str_of, str_of, sB_app, sB_app, sB_app, sB_app, sB_app, sB_app, sB_len, sl]; simp [Co01.ascii]; omega
      · rw [sB_nil, str_of, str_of, str_of, sB_app, sB_app, sB_app, sB_app, sB_app, sB_app]
        have := q _ k1
        simpa [Co01.ascii, tJs] using this
    rw [if_neg e1] at q
    refine ⟨_, rfl, rfl, _, rfl, if_str (fun e => ?_) (fun e2 => ?_)⟩
    · rw [if_pos e] at q
      obtain ⟨a, rfl, wr⟩ := dt.2.2 (.inr (.inr (.inr e)))
      refine ⟨_, rfl, a, d, rfl, st _ _ _ _ (Bd.Same.nl k1) wr, fun H3 k3 => ?_⟩
      refine ⟨_, rfl, ?_, _, rfl, .inl ⟨_, rfl, by rw [sB_len, sl]; omega, _, rfl, ?_, _, rfl, ?_, _, rfl, .inl ⟨_, rfl, by rw [sB_len, sl]; omega, _, rfl, ?_, _, rfl, ?_, _, rfl, .inl ⟨_, rfl, by rw [sB_len, sl]; omega, _, rfl, ?_, ?_⟩⟩⟩⟩
      · rw [sB_nil, str_of, sB_app, sB_len, sl]; simp [Co01.ascii]
      · rw [sB_nil, str_of, sB_app, sB_app, sB_len, sl]; simp [Co01.ascii]; omega
      · rw [sB_nil, str_of, str_of, sB_app, sB_app, sB_app, sB_len, sl]; simp [Co01.ascii]; omega
      · rw [sB_nil, str_of, str_of, sB_app, sB_app, sB_app, sB_app, sB_len, sl]; simp [Co01.ascii]; omega
      · rw [sB_nil, str_of, str_of, str_of, sB_app, sB_app, sB_app, sB_app, sB_app, sB_len, sl]; simp [Co01.ascii]; omega
      · rw [sB_nil, str_of, str_of, str_of, sB_app, sB_app, sB_app, sB_app, sB_app, sB_app, sB_len, sl]; simp [Co01.ascii]; omega
      · rw [sB_nil, str_of, str_of, str_of, sB_app, sB_app, sB_app, sB_app, sB_app, sB_app]
        have := q _ (k1.trans k3)
        simpa [Co01.ascii, tJs] using this
    · rw [if_neg e2] at q
      refine ⟨_, rfl, .inl ⟨_, rfl, by rw [sB_len, sl]; omega, _, rfl, ?_, _, rfl, ?_, _, rfl, .inl ⟨_, rfl, by rw [sB_len, sl]; omega, _, rfl, ?_, _, rfl, ?_, _, rfl, .inl ⟨_, rfl, by rw [sB_len, sl]; omega, _, rfl, ?_, ?_⟩⟩⟩⟩
      · rw [sB_nil, sB_app, sB_len, sl]; simp; omega
      · rw [sB_nil, str_of, sB_app, sB_app, sB_len, sl]; simp [Co01.ascii]; omega
      · rw [sB_nil, str_of, sB_app, sB_app, sB_app, sB_len, sl]; simp [Co01.ascii]; omega
      · rw [sB_nil, str_of, sB_app, sB_app, sB_app, sB_app, sB_len, sl]; simp [Co01.ascii]; omega
      · rw [sB_nil, str_of, sB_app, sB_app, sB_app, sB_app, sB_app, sB_len, sl]; simp [Co01.ascii]; omega
      · rw [sB_nil, str_of, sB_app, sB_app, sB_app, sB_app, sB_app]
        have := q _ k1
        simpa [Co01.ascii, tJs] using this
/-! ## step_text -/
abbrev sStepT : Stmt := top 59
def spStepT (Wr : Hp → Addr → Co01.Bytes → Prop) : Sp := fun vs H Q _ => ∃ (x d : Co01.Bytes) (dv : V) (pt : Addr) (ps : List Co01.Bytes), vs = [.str (sB x), dv, .ref pt] ∧ x ∈ Mx.WORDSW ∧ H pt = some (.lst (texts ps)) ∧ ps.length = (Mx.kids x).length ∧ DText Wr H x dv d ∧
  d.length + (ps.map List.length).sum ≤ 10000000 ∧ ∀ H', Same H H' → Q (.str (sB (Mx.stepTxt x d ps))) H'
theorem scStepT : FnScope ["word", "detail", "texts", "amount"] ["word", "detail", "texts"] (defScope sStepT) := ⟨rfl, rfl, rfl, by decide +kernel, rfl, by decide +kernel, by decide +kernel⟩
theorem ok_stepT {k : Nat} {Wr : Hp → Addr → Co01.Bytes → Prop} {f1 f2 f3 : Addr} {fd1 fd2 fd3 : FuncData} (F : FnP K "step_text" sStepT f fd) (gS : mg "str" = none) (gL : mg "len" = none)
    (F1 : FnP K "written" sWritten f1 fd1) (m1 : mg "written" = some (.ref f1)) (G1 : FnOk P w K mg base CX0 k f1 fd1 ["steps"] (spWr Wr)) (st : Stays Wr)
    (F2 : FnP K "text_around_one" sOne f2 fd2) (m2 : mg "text_around_one" = some (.ref f2)) (G2 : FnOk P w K mg base CX0 (k + 1) f2 fd2 ["word", "detail", "text"] (spOne Wr))
    (F3 : FnP K "text_around_two" sTwo f3 fd3) (m3 : mg "text_around_two" = some (.ref f3)) (G3 : FnOk P w K mg base CX0 (k + 1) f3 fd3 ["word", "detail", "first", "second"] (spTwo Wr)) :
    FnOk P w K mg base CX0 (k + 2) f fd ["word", "detail", "texts"] (spStepT Wr) := by
  have b1 : Binds K fd1 ["steps"] [] := F1.binds fun _ _ _ _ _ _ us hl => match us, hl with | [_], _ => rfl
  have b2 : Binds K fd2 ["word", "detail", "text"] [] := F2.binds fun _ _ _ _ _ _ us hl => match us, hl with | [_, _, _], _ => rfl
  have b3 : Binds K fd3 ["word", "detail", "first", "second"] [] := F3.binds fun _ _ _ _ _ _ us hl => match us, hl with | [_, _, _, _], _ => rfl
  refine F.ok scStepT (fun vs H Q E h => ?_) (fun cdv A outer s H vs Q E hr h => ⟨_, (pss_cons (ps_if (pt_cmpR op_eq (pv 0) pe_str (nomark _)) (pss_one (ps_ret (pe_callTy call_str_int rfl gS (by decide +kernel) (pa_cons (pv 1) pa_nil)))) pss_nil)
    (pss_cons (ps_if (pt_cmpR op_eq (pv 0) pe_str (nomark _)) (pss_one (ps_ret (pv 1))) pss_nil)
    (pss_cons (ps_if (pt_cmpR op_eq (pv 0) pe_str (nomark _)) (pss_one (ps_ret (pv 0))) pss_nil)
    (pss_cons (ps_if (pt_cmpR op_eq (pv 0) pe_str (nomark _))
      (pss_cons (ps_set (i := 3) scStepT.nd rfl (.inl rfl) (pe_call (G1.mono (Nat.le_succ k)) hr rfl m1 F1.kp b1 .nil pass0 (pa_cons (pv 1) pa_nil)))
        (pss_one (ps_ret (pe_joined (.cons pe_str (.cons (pe_fmt (pv 3)) .nil)))))) pss_nil)
    (pss_cons (ps_if (pt_cmpR op_eq (pe_callB call_len_seq rfl gL PySem.boot_len (pa_cons (pv 2) pa_nil)) pe_int (nomark _)) (pss_one (ps_ret (pe_call G2 hr rfl m2 F2.kp b2 .nil pass0 (pa_cons (pv 0) (pa_cons (pv 1) (pa_cons (pe_ix ix_list (pv 2) pe_int (fun _ _ => rfl)) pa_nil)))))) pss_nil)
    (pss_one (ps_ret (pe_call G3 hr rfl m3 F3.kp b3 .nil pass0 (pa_cons (pv 0) (pa_cons (pv 1) (pa_cons (pe_ix ix_list (pv 2) pe_int (fun _ _ => rfl)) (pa_cons (pe_ix ix_list (pv 2) pe_int (fun _ _ => rfl)) pa_nil)))))))))))), ?_⟩)
  · obtain ⟨x, d, dv, pt, ps, rfl, _⟩ := h
    rfl
  · obtain ⟨x, d, dv, pt, ps, rfl, hx, hp, pl, dt, len, q⟩ := h
    have sl : sizeLine = 16777216 := sizeLine_eq
    have xl := Mx.word_len hx
    refine ⟨_, rfl, rfl, _, rfl, if_str (fun e => ?_) (fun e1 => ?_)⟩
    · obtain ⟨n, rfl, hn, rfl⟩ := dt.1 (.inl e)
      unfold Mx.stepTxt at q
      rw [if_pos (.inl e)] at q
      refine ⟨_, rfl, _, rfl, hn, ?_⟩
      have := q H (Same.refl H)
      rw [← int_text] at this
      exact this
    refine ⟨_, rfl, rfl, _, rfl, if_str (fun e => ?_) (fun e2 => ?_)⟩
    · have hd := dt.2.1 e
      unfold Mx.stepTxt at q
      rw [if_pos (.inr e)] at q
      subst hd
      exact ⟨_, rfl, q H (Same.refl H)⟩
    refine ⟨_, rfl, rfl, _, rfl, if_str (fun e => ?_) (fun e3 => ?_)⟩
    · unfold Mx.stepTxt at q
      rw [if_neg (fun h => h.elim e1 e2), if_pos e] at q
      exact ⟨_, rfl, q H (Same.refl H)⟩
    refine ⟨_, rfl, rfl, _, rfl, if_str (fun e => ?_) (fun e4 => ?_)⟩
    · obtain ⟨a, rfl, wr⟩ := dt.2.2 (.inl e)
      unfold Mx.stepTxt at q
      rw [if_neg (fun h => h.elim e1 e2), if_neg e3, if_pos e] at q
      refine ⟨_, rfl, a, d, rfl, wr, fun H3 k3 => ?_⟩
      refine ⟨_, rfl, ?_, _, rfl, .inl ⟨_, rfl, by rw [sB_len, sl]; omega, _, rfl, ?_, ?_⟩⟩
      · rw [sB_nil, str_of, sB_app, sB_len, sl]; simp [Co01.ascii]
      · rw [sB_nil, str_of, sB_app, sB_app, sB_len, sl]; simp [Co01.ascii]; omega
      · rw [sB_nil, str_of, sB_app, sB_app]
        exact q _ k3
    have sq : SqL K H pt (texts ps) := .inl (.inl hp)
    have k2 := Mx.kids_len x
    have lp : (texts ps).length = ps.length := by simp [texts]
    refine ⟨_, rfl, pt, texts ps, rfl, .inl sq, rfl, _, rfl, ?_⟩
    rw [lp]
    match ps, pl, lp with
    | [], pl, lp =>
      exfalso
      have all : ∀ x ∈ Mx.WORDSW, (Mx.kids x).length = 0 → x = Co01.ascii "number" ∨ x = Co01.ascii "name" ∨ x = Co01.ascii "nothing" ∨ x = Co01.ascii "pay" := by decide +kernel
      rcases all x hx pl.symm with h | h | h | h
      · exact e1 h
      · exact e2 h
      · exact e3 h
      · exact e4 h
    | [a], pl, lp =>
      have t : decide (V.int (([a] : List Co01.Bytes).length : Nat) = V.int 1) = true := decide_eq_true rfl
      rw [t]
      exact ⟨_, rfl, _, rfl, _, rfl, pt, _, _, .str (sB a), rfl, rfl, sq, rfl, x, d, a, dv, rfl, xl, dt, by simp at len; omega, e1, e2, e3, e4, q⟩
    | [a, b], pl, lp =>
      have t : decide (V.int (([a, b] : List Co01.Bytes).length : Nat) = V.int 1) = false := by
        rw [decide_eq_false_iff_not]; intro z; exact absurd (show (2 : Int) = 1 from V.int.inj z) (by decide)
      rw [t]
      exact ⟨_, rfl, _, rfl, _, rfl, pt, _, _, .str (sB a), rfl, rfl, sq, rfl, _, rfl, pt, _, _, .str (sB b), rfl, rfl, sq, rfl, x, d, a, b, dv, rfl, xl, dt, by simp at len; omega, e1, e2, e3, e4, q⟩
    | a :: b :: c :: l, pl, lp => simp at pl; omega
end
end Bd
end
section
set_option Elab.async false
set_option linter.all false
set_option maxRecDepth 100000
set_option maxHeartbeats 4000000
set_option autoImplicit false
namespace Bd
open PySem PySem.Spec PyProof.Rows L2
/-! ## written -/
/-- steps with their details' texts -/
inductive WAt (Wr : Hp → Addr → Co01.Bytes → Prop) (H : Hp) : List V → Mx.WS → Prop
  | nil : WAt Wr H [] []
  | cons {b : Addr} {dv : V} {x d : Co01.Bytes} {vs : List V} {l : Mx.WS} : H b = some (.tup [.str (sB x), dv]) → DText Wr H x dv d → WAt Wr H vs l → WAt Wr H (.ref b :: vs) ((x, d) :: l)
theorem WAt.at_ {Wr : Hp → Addr → Co01.Bytes → Prop} {H : Hp} {vs : List V} {l : Mx.WS} (h : WAt Wr H vs l) : ∀ {i : Nat} {v : V}, vs[i]? = some v → ∃ b dv x d, v = .ref b ∧ l[i]? = some (x, d) ∧ H b = some (.tup [.str (sB x), dv]) ∧ DText Wr H x dv d := by
  induction h with
  | nil => intro i v e; simp at e
  | cons e1 e2 _ ih =>
    intro i v e
    cases i with
    | zero => simp at e; subst e; exact ⟨_, _, _, _, rfl, rfl, e1, e2⟩
    | succ i => obtain ⟨b, dv, x, d, h1, h2, h3⟩ := ih (by simpa using e); exact ⟨b, dv, x, d, h1, by simpa using h2, h3⟩
theorem WAt.length {Wr : Hp → Addr → Co01.Bytes → Prop} {H : Hp} {vs : List V} {l : Mx.WS} (h : WAt Wr H vs l) : vs.length = l.length := by
  induction h with
  | nil => rfl
  | cons _ _ _ ih => simp [ih]
theorem WAt.keeps {Wr : Hp → Addr → Co01.Bytes → Prop} (st : Stays Wr) {H H' : Hp} (k : Nl H H') {vs : List V} {l : Mx.WS} (h : WAt Wr H vs l) : WAt Wr H' vs l := by
  induction h with
  | nil => exact .nil
  | cons e1 e2 _ ih => exact .cons (k.tk _ _ e1) (e2.keeps st k) ih
/-- what is written of the steps at a -/
def WrOf (Wr : Hp → Addr → Co01.Bytes → Prop) : Hp → Addr → Co01.Bytes → Prop := fun H a z => ∃ (vs : List V) (l : Mx.WS) (x : Co01.Bytes), H a = some (.tup vs) ∧ WAt Wr H vs l ∧ (∀ x ∈ l, x.1 ∈ Mx.WORDSW) ∧ Mx.wsteps l [] = some [(x, z)] ∧ l.length ≤ 1000 ∧ Mx.costW l ≤ 9000000
theorem stays_of {Wr : Hp → Addr → Co01.Bytes → Prop} (st : Stays Wr) : Stays (WrOf Wr) := fun H H' a d k h => by
  obtain ⟨vs, l, x, h1, h2, h3⟩ := h
  exact ⟨vs, l, x, k.tk _ _ h1, h2.keeps st k, h3⟩
def pairT (x : Co01.Bytes × Co01.Bytes) : List V := [.str (sB x.1), .str (sB x.2)]
theorem zipB_get : ∀ (l : List (Co01.Bytes × Co01.Bytes)) (k : List Nat) (i : Nat) (x : Co01.Bytes × Co01.Bytes) (c : Nat), l[i]? = some x → k[i]? = some c → (Mx.zipB l k)[i]? = some (Mx.withinB x.1 x.2 c)
  | [], _, _, _, _, h, _ => by simp at h
  | _ :: _, [], _, _, _, _, h => by simp at h
  | y :: l, d :: k, 0, x, c, h, h' => by simp at h h'; subst h h'; rfl
  | y :: l, d :: k, i + 1, x, c, h, h' => by
    have := zipB_get l k i x c (by simpa using h) (by simpa using h')
    simpa [Mx.zipB] using this
theorem zipB_length : ∀ (l : List (Co01.Bytes × Co01.Bytes)) (k : List Nat), l.length = k.length → (Mx.zipB l k).length = k.length
  | [], [], _ => rfl
  | [], _ :: _, h => by simp at h
  | _ :: _, [], h => by simp at h
  | y :: l, d :: k, h => by simp [Mx.zipB, zipB_length l k (by simpa using h)]
theorem wstep_inv {x : Co01.Bytes × Co01.Bytes} {l m : Mx.WS} (h : Mx.wstep x l = some m) : ∃ ps l0, l = ps.reverse ++ l0 ∧ ps.length = (Mx.kids x.1).length ∧ m = (x.1, Mx.stepTxt x.1 x.2 (Mx.zipB ps (Mx.kids x.1))) :: l0 := by
  unfold Mx.wstep at h
  split at h
  · cases h
    exact ⟨(l.take (Mx.kids x.1).length).reverse, l.drop (Mx.kids x.1).length, by simp, by simp; omega, rfl⟩
  · cases h
theorem count_kids : ∀ x ∈ Mx.WORDSW, (sB x, (Mx.kids x).length) ∈ COUNTS := by decide +kernel
section
variable {P : Program} {w : World} {K : PySem.W.Frag} {mg : Str → Option Value} {base : Heap} {f : Addr} {fd : FuncData}
theorem scWritten : FnScope ["steps", "stack", "word", "detail", "texts", "part", "closeness"] ["steps"] (defScope sWritten) := ⟨rfl, rfl, rfl, by decide +kernel, rfl, by decide +kernel, by decide +kernel⟩
theorem ok_written {k : Nat} {Wr : Hp → Addr → Co01.Bytes → Prop} {f1 f2 f3 : Addr} {fd1 fd2 fd3 : FuncData} (F : FnP K "written" sWritten f fd) (gZ : mg "zip" = none) (gK : KidsG w K mg) (st : Stays Wr)
    (F1 : FnP K "taken_parts" sTaken f1 fd1) (m1 : mg "taken_parts" = some (.ref f1)) (G1 : FnOk P w K mg base CX0 1 f1 fd1 ["stack", "word"] spTaken)
    (F2 : FnP K "within_brackets" sBrack f2 fd2) (m2 : mg "within_brackets" = some (.ref f2)) (G2 : FnOk P w K mg base CX0 1 f2 fd2 ["word", "text", "closeness"] spBrack)
    (F3 : FnP K "step_text" sStepT f3 fd3) (m3 : mg "step_text" = some (.ref f3)) (G3 : FnOk P w K mg base CX0 (k + 1) f3 fd3 ["word", "detail", "texts"] (spStepT Wr)) :
    FnOk P w K mg base CX0 (k + 2) f fd ["steps"] (spWr (WrOf Wr)) := by
  obtain ⟨dK, mK, hK⟩ := gK
  have b1 : Binds K fd1 ["stack", "word"] [] := F1.binds fun _ _ _ _ _ _ us hl => match us, hl with | [_, _], _ => rfl
  have b2 : Binds K fd2 ["word", "text", "closeness"] [] := F2.binds fun _ _ _ _ _ _ us hl => match us, hl with | [_, _, _], _ => rfl
  have b3 : Binds K fd3 ["word", "detail", "texts"] [] := F3.binds fun _ _ _ _ _ _ us hl => match us, hl with | [_, _, _], _ => rfl
  refine F.ok scWritten (fun vs H Q E h => ?_) (fun cdv A outer s H vs Q E hr h => ⟨_, (pss_cons (ps_set (i := 1) scWritten.nd rfl (.inl rfl) (pe_lst pa_nil))
    (pss_cons (ps_for PassesOwn.never rfl (pi_tup (pv 0)) (pg_tup rfl (pgs_cons (pg_name (i := 2) scWritten.nd rfl (.inl rfl)) (pgs_cons (pg_name (i := 3) scWritten.nd rfl (.inl rfl)) pgs_nil)))
      (pss_cons (ps_set (i := 4) scWritten.nd rfl (.inl rfl) (pe_lst pa_nil))
      (pss_cons (ps_for PassesOwn.never rfl (pi_zipM rfl gZ (pa_cons (pe_call (G1.mono (Nat.le_add_left 1 k)) hr rfl m1 F1.kp b1 .nil pass0 (pa_cons (pv 1) (pa_cons (pv 2) pa_nil))) (pa_cons (pe_ix ix_kdict (pe_glob (v := .ref dK) (by rfl) mK rfl) (pv 2) (fun _ _ => rfl)) pa_nil)))
          (pg_tup rfl (pgs_cons (pg_name (i := 5) scWritten.nd rfl (.inl rfl)) (pgs_cons (pg_name (i := 6) scWritten.nd rfl (.inl rfl)) pgs_nil)))
        (pss_one (ps_expr (pe_bm PySem.F.plainAttrs_list PySem.F.slot_list_append PySem.F.type_list_append mt_append (pv 4) (pa_cons (pe_call (G2.mono (Nat.le_add_left 1 k)) hr rfl m2 F2.kp b2 .nil pass0 (pa_cons (pe_ix ix_tup (pv 5) pe_int (fun _ _ => rfl)) (pa_cons (pe_ix ix_tup (pv 5) pe_int (fun _ _ => rfl)) (pa_cons (pv 6) pa_nil)))) pa_nil)))))
      (pss_one (ps_expr (pe_bm PySem.F.plainAttrs_list PySem.F.slot_list_append PySem.F.type_list_append mt_append (pv 1) (pa_cons (pe_tup (pa_cons (pv 2) (pa_cons (pe_call G3 hr rfl m3 F3.kp b3 .nil pass0 (pa_cons (pv 2) (pa_cons (pv 3) (pa_cons (pv 4) pa_nil)))) pa_nil))) pa_nil)))))))
    (pss_one (ps_ret (pe_ix ix_tup (pe_ix ix_list (pv 1) pe_int (fun _ _ => rfl)) pe_int (fun _ _ => rfl)))))), ?_⟩)
  · obtain ⟨a, z, rfl, _⟩ := h
    rfl
  · obtain ⟨a, z, rfl, ⟨vs, l, tx, ha, wat, wds, run, ll, cost⟩, q⟩ := h
    have sl : sizeLine = 16777216 := sizeLine_eq
    have vl := wat.length
    refine ⟨by decide, fun sk hsk => ?_⟩
    have k0 : Same H (L2.upd H sk (.lst [])) := same_new (Same.refl H) hsk _
    refine ⟨_, rfl, a, rfl, ⟨vs, .inl (.inl (k0 _ _ ha))⟩, for_tup (K := K) (a := a) (xs := vs) (fun i σ H1 => ∃ (o2 o3 o4 o5 o6 : Option V) (m : Mx.WS) (ts : List Addr), σ = [some (.ref a), some (.ref sk), o2, o3, o4, o5, o6] ∧ Same H H1 ∧ Mx.wsteps (l.take i) [] = some m ∧ H1 sk = some (.lst (ts.map V.ref)) ∧ Tups H1 ts (m.reverse.map pairT))
      ⟨none, none, none, none, none, [], [], rfl, k0, rfl, upd_same, .nil⟩ (fun i σ H1 _ h => by obtain ⟨_, _, _, _, _, _, _, _, k, _⟩ := h; exact .inl (.inl (k _ _ ha))) (fun i y σ H1 hy h => ?_) (fun σ H1 h => ?_)⟩
    · obtain ⟨o2, o3, o4, o5, o6, m, ts, rfl, kk, hm, hS, tu⟩ := h
      obtain ⟨b, dv, x, d, rfl, hx, hb, dt⟩ := wat.at_ hy
      have hi := (List.getElem?_eq_some_iff.mp hx).1
      have xW : x ∈ Mx.WORDSW := wds (x, d) (List.mem_of_getElem? hx)
      obtain ⟨m', hs, hm'⟩ := Mx.wsteps_next run hx hm
      obtain ⟨ps, l0, rfl, pl, rfl⟩ := wstep_inv hs
      dsimp only at pl hm'
      -- sizes
      have hc : Mx.costW (l.take i) + (d.length + 60) ≤ Mx.costW l := by
        have e : l = l.take i ++ (x, d) :: l.drop (i + 1) := by
          have := List.drop_eq_getElem_cons hi
          rw [show l[i] = (x, d) from (List.getElem?_eq_some_iff.mp hx).2] at this
          rw [← this, List.take_append_drop]
        have e2 : Mx.costW (l.take i ++ (x, d) :: l.drop (i + 1)) = Mx.costW (l.take i) + (d.length + 60 + Mx.costW (l.drop (i + 1))) := by
          unfold Mx.costW
          rw [List.map_append, List.sum_append, List.map_cons, List.sum_cons]
        rw [← e] at e2
        omega
      have lw : Mx.lenW (ps.reverse ++ l0) + d.length ≤ 9000000 := by
        have h1 := Mx.wsteps_len (fun y hy => wds y (List.mem_of_mem_take hy)) hm
        have h3 : Mx.lenW [] = 0 := rfl
        omega
      have lwp : Mx.lenW ps + d.length ≤ 9000000 := by rw [Mx.lenW_app, Mx.lenW_rev] at lw; omega
      have ml : (ps.reverse ++ l0).length ≤ 1000 := by
        have := Mx.wsteps_size hm
        rw [List.length_take, List.length_nil] at this
        omega
      have hb1 := kk _ _ hb
      rw [List.reverse_append, List.reverse_reverse, List.map_append] at tu
      obtain ⟨t0, tp, rfl, tu0, tup⟩ : ∃ t0 tp, ts = t0 ++ tp ∧ Tups H1 t0 (l0.reverse.map pairT) ∧ Tups H1 tp (ps.map pairT) := by
        have : ∀ {as : List Addr} {xs ys : List (List V)}, Tups H1 as (xs ++ ys) → ∃ a b, as = a ++ b ∧ Tups H1 a xs ∧ Tups H1 b ys := by
          intro as xs
          induction xs generalizing as with
          | nil => intro ys h; exact ⟨[], as, rfl, .nil, h⟩
          | cons x xs ih => intro ys h; cases h with | cons e h => obtain ⟨a, b, rfl, h1, h2⟩ := ih h; exact ⟨_ :: a, b, rfl, .cons e h1, h2⟩
        exact this tu
      -- the names; texts
      refine ⟨b, _, rfl, .inl (.inl hb1), rfl, _, _, rfl, _, _, rfl, rfl, (by show 0 ≤ sizeLine; decide), fun tx1 htx => ?_⟩
      have k1 : Same H1 (L2.upd H1 tx1 (.lst [])) := same_new (Same.refl H1) htx _
      have stx : sk ≠ tx1 := fun z => by rw [z, htx] at hS; cases hS
      generalize hH2 : L2.upd H1 tx1 (.lst []) = H2 at k1
      have htx2 : H2 tx1 = some (.lst []) := by rw [← hH2]; exact upd_same
      -- taken_parts, closeness
      refine ⟨_, rfl, _, rfl, sk, sB x, ps.length, t0.map V.ref, tp.map V.ref, rfl, ?_, by rw [← List.map_append]; exact k1 _ _ hS, by rw [List.length_map, tup.length, List.length_map], fun H3 p hp hp3 hS3 bt => ?_⟩
      · rw [pl]; exact count_kids x xW
      obtain ⟨ka, hka, ku⟩ := hK x xW
      refine ⟨_, rfl, dK, sB x, _, rfl, rfl, hka, p, ka, tp.map V.ref, _, rfl, .inl (.inl hp3), ku.sq _, ?_⟩
      have ptx : tx1 ≠ p := fun z => by rw [z, hp] at htx2; cases htx2
      have k13 : ∀ c u, H1 c = some u → c ≠ sk → H3 c = some u := fun c u e n => bt _ _ (k1 _ _ e) n
      have tk13 : Tk H1 H3 := fun c u e => k13 _ _ e (fun z => by rw [z, hS] at e; cases e)
      have htx3 : H3 tx1 = some (.lst []) := bt _ _ htx2 stx.symm
      have kH3 : Same H H3 := fun c u e => k13 _ _ (kk _ _ e) (fun z => by rw [z, hsk] at e; cases e)
      have tl : tp.length = ps.length := by rw [tup.length, List.length_map]
      refine for_zipM (K := K) (a := p) (b := ka) (xs := tp.map V.ref) (ys := (Mx.kids x).map fun (n : Nat) => V.int n) (by rw [List.length_map, List.length_map, tl, pl]) (fun j σ H4 => ∃ (o5 o6 : Option V), σ = [some (.ref a), some (.ref sk), some (.str (sB x)), some dv, some (.ref tx1), o5, o6] ∧ But tx1 H3 H4 ∧ H4 tx1 = some (.lst (texts ((Mx.zipB ps (Mx.kids x)).take j))))
        ⟨o5, o6, rfl, fun c u e _ => e, by rw [List.take_zero]; exact htx3⟩ (fun j σ H4 h => by obtain ⟨_, _, _, b4, _⟩ := h; exact ⟨.inl (.inl (b4 _ _ hp3 ptx.symm)), ku.sq _⟩) (fun j y c T σ H4 hj hc h hT => ?_) (fun σ H4 h => ?_)
      · obtain ⟨o5, o6, rfl, b4, htx4⟩ := h
        rw [List.getElem?_map] at hj hc
        obtain ⟨r, hr', rfl⟩ := Option.map_eq_some_iff.mp hj
        obtain ⟨cn, hcn, rfl⟩ := Option.map_eq_some_iff.mp hc
        have hj' := (List.getElem?_eq_some_iff.mp hr').1
        obtain ⟨r2, pr, er, hpr, hrr⟩ := tup.at_ (i := j) (v := .ref r) (by rw [List.getElem?_map, hr']; rfl)
        cases er
        rw [List.getElem?_map] at hpr
        obtain ⟨px, hpx, rfl⟩ := Option.map_eq_some_iff.mp hpr
        have hr4 : H4 r = some (.tup (pairT px)) := b4 _ _ (tk13 _ _ hrr) (fun z => by rw [z, htx] at hrr; cases hrr)
        have k45 : Same H4 (L2.upd H4 T (.tup [.ref r, .int cn])) := same_new (Same.refl H4) hT _
        have hzg := zipB_get ps (Mx.kids x) j px cn hpx hcn
        -- the part's word is one of the words
        have pxW : px.1 ∈ Mx.WORDSW := by
          have all : ∀ {s m : Mx.WS}, (∀ y ∈ s, y.1 ∈ Mx.WORDSW) → ∀ l : Mx.WS, (∀ y ∈ l, y.1 ∈ Mx.WORDSW) → Mx.wsteps s l = some m → ∀ y ∈ m, y.1 ∈ Mx.WORDSW := by
            intro s
            induction s with
            | nil => intro m _ l hl e; cases e; exact hl
            | cons y s ih =>
              intro m hs l hl e
              cases q : Mx.wstep y l with
              | none => simp [Mx.wsteps, q] at e
              | some l' =>
                simp [Mx.wsteps, q] at e
                obtain ⟨qs, l2, rfl, _, rfl⟩ := wstep_inv q
                refine ih (fun z hz => hs z (by simp [hz])) _ ?_ e
                intro z hz
                rcases List.mem_cons.mp hz with rfl | hz
                · exact hs y (by simp)
                · exact hl z (by simp [hz])
          refine all (fun y hy => wds y (List.mem_of_mem_take hy)) [] (by simp) hm px ?_
          have := List.mem_of_getElem? hpx
          simp [this]
        have pxl : px.2.length ≤ 9000000 := by
          have : px.2.length ≤ Mx.lenW ps := by
            obtain ⟨p, s, e⟩ := List.append_of_mem (List.mem_of_getElem? hpx)
            rw [e, Mx.lenW_app]
            show _ ≤ _ + ((px :: s).map fun x => x.2.length).sum
            rw [List.map_cons, List.sum_cons]; omega
          omega
        have nT : tx1 ≠ T := fun z => by rw [z, hT] at htx4; cases htx4
        refine ⟨T, _, rfl, .inl (.inl upd_same), rfl, _, _, rfl, _, _, rfl, rfl, _, rfl, .inl ⟨rfl, _, .inl (.inl (by rw [upd_ne nT]; exact htx4))⟩, _, rfl, r, _, _, .str (sB px.1), rfl, rfl, .inl (.inl (k45 _ _ hr4)), rfl, _, rfl, r, _, _, .str (sB px.2), rfl, rfl, .inl (.inl (k45 _ _ hr4)), rfl, _, rfl, px.1, px.2, cn, rfl, pxW, by omega, fun H5 k5 => ?_⟩
        have htx5 : H5 tx1 = some _ := k5 _ _ (k45 _ _ htx4)
        refine ⟨tx1, _, _, rfl, rfl, htx5, ?_, _, _, rfl, ?_, ?_⟩
        · refine small1000 ?_
          have := List.length_take_le j (Mx.zipB ps (Mx.kids x))
          have := zipB_length ps (Mx.kids x) pl
          have := Mx.kids_len x
          rw [show (texts ((Mx.zipB ps (Mx.kids x)).take j)).length = ((Mx.zipB ps (Mx.kids x)).take j).length by simp [texts]]
          rw [List.length_take]
          omega
        · exact fun c u e n => by rw [upd_ne n]; exact k5 _ _ (k45 _ _ (b4 _ _ e n))
        · rw [upd_same, List.take_add_one, hzg]
          simp [texts]
      · obtain ⟨o5, o6, rfl, b4, htx4⟩ := h
        rw [List.length_map, tl, pl, ← zipB_length ps (Mx.kids x) pl, List.take_length] at htx4
        have kH4 : Same H H4 := fun c u e => b4 _ _ (kH3 _ _ e) (fun z => by have := kk _ _ e; rw [z, htx] at this; cases this)
        have hS4 : H4 sk = some (.lst (t0.map V.ref)) := b4 _ _ hS3 stx
        have zl := Mx.zipB_len ps (Mx.kids x)
        have kl := Mx.kids_len x
        refine ⟨_, rfl, .inl ⟨rfl, _, .inl (.inl hS4)⟩, _, rfl, _, rfl, _, rfl, _, rfl, x, d, dv, tx1, Mx.zipB ps (Mx.kids x), rfl, xW, htx4, zipB_length ps _ pl, dt.keeps st (Bd.Same.nl kH4), by omega, fun H5 k5 => ?_⟩
        refine ⟨(by show 2 ≤ sizeLine; decide), fun T hT => ?_⟩
        have k56 : Same H5 (L2.upd H5 T (.tup [.str (sB x), .str (sB (Mx.stepTxt x d (Mx.zipB ps (Mx.kids x))))])) := same_new (Same.refl H5) hT _
        have hS6 := k56 _ _ (k5 _ _ hS4)
        have nT : T ≠ sk := fun z => by rw [z, k5 _ _ hS4] at hT; cases hT
        refine ⟨sk, _, _, rfl, rfl, hS6, ?_, _, _, _, _, _, _, t0 ++ [T], rfl, ?_, hm', ?_, ?_⟩
        · refine small1000 ?_
          rw [List.length_map, tu0.length]
          simp at ml ⊢; omega
        · intro c u e
          rw [upd_ne (fun z => by rw [z, hsk] at e; cases e)]
          exact k56 _ _ (k5 _ _ (kH4 _ _ e))
        · rw [upd_same, List.map_append]; rfl
        · rw [List.reverse_cons, List.map_append]
          have tk4 : Tk H1 H4 := fun c u e => b4 _ _ (tk13 _ _ e) (fun z => by rw [z, htx] at e; cases e)
          have tk6 : ∀ o, Tk (L2.upd H5 T (.tup [.str (sB x), .str (sB (Mx.stepTxt x d (Mx.zipB ps (Mx.kids x))))])) (L2.upd (L2.upd H5 T (.tup [.str (sB x), .str (sB (Mx.stepTxt x d (Mx.zipB ps (Mx.kids x))))])) sk o) := fun o c u e => by rw [upd_ne (fun z => by rw [z, hS6] at e; cases e)]; exact e
          refine (tu0.keeps ((tk4.trans (Bd.Same.tk (k5.trans k56))).trans (tk6 _))).snoc ?_
          rw [upd_ne nT, upd_same]; rfl
    · obtain ⟨o2, o3, o4, o5, o6, m, ts, rfl, kk, hm, hS, tu⟩ := h
      rw [vl, List.take_length, run] at hm
      cases hm
      cases tu with
      | cons e h =>
        cases h
        rename_i t
        exact ⟨_, rfl, sk, _, _, .ref t, rfl, rfl, .inl (.inl hS), rfl, t, _, 1, .str (sB z), rfl, rfl, .inl (.inl e), rfl, q H1 kk⟩
end
end Bd
end
section
set_option Elab.async false
set_option linter.all false
set_option maxRecDepth 100000
set_option maxHeartbeats 4000000
set_option autoImplicit false
namespace Bd
open PySem PySem.Spec PyProof.Rows L2
def Wr0 : Hp → Addr → Co01.Bytes → Prop := fun _ _ _ => False
abbrev Wr1 := WrOf Wr0
abbrev Wr2 := WrOf Wr1
theorem stays0 : Stays Wr0 := fun _ _ _ _ _ h => h
theorem stays1 : Stays Wr1 := stays_of stays0
theorem stays2 : Stays Wr2 := stays_of stays1
theorem wdX_in (x : Mx.XS) : Mx.wdX x ∈ Mx.WORDSW := by
  cases x with
  | num n => show Co01.ascii "number" ∈ _; decide +kernel
  | name n => show Co01.ascii "name" ∈ _; decide +kernel
  | neg => decide +kernel
  | not => decide +kernel
  | and => decide +kernel
  | or => decide +kernel
  | bin o => cases o <;> decide +kernel
  | cmp o => cases o <;> decide +kernel
theorem dtext_xs {ns : List Co01.Bytes} {H : Hp} {x : Mx.XS} (hx : Mx.xFit ns x) : DText Wr0 H (Mx.wdX x) (detX x) (Mx.dtX x) := by
  have no : ∀ u : Co01.Bytes, (u ≠ Co01.ascii "number" ∧ u ≠ Co01.ascii "at" ∧ u ≠ Co01.ascii "may" ∧ u ≠ Co01.ascii "name" ∧ u ≠ Co01.ascii "pay" ∧ u ≠ Co01.ascii "times" ∧ u ≠ Co01.ascii "stop" ∧ u ≠ Co01.ascii "if") → ∀ dv d, DText Wr0 H u dv d := fun u h dv d =>
    ⟨fun q => (q.elim h.1 fun q => q.elim h.2.1 h.2.2.1).elim, fun q => (h.2.2.2.1 q).elim, fun q => (q.elim h.2.2.2.2.1 fun q => q.elim h.2.2.2.2.2.1 fun q => q.elim h.2.2.2.2.2.2.1 h.2.2.2.2.2.2.2).elim⟩
  cases x with
  | num n => exact ⟨fun _ => ⟨n, rfl, hx, rfl⟩, fun q => absurd (show Co01.ascii "number" = Co01.ascii "name" from q) (by decide), fun q => absurd (show Co01.ascii "number" = Co01.ascii "pay" ∨ Co01.ascii "number" = Co01.ascii "times" ∨ Co01.ascii "number" = Co01.ascii "stop" ∨ Co01.ascii "number" = Co01.ascii "if" from q) (by decide)⟩
  | name n => exact ⟨fun q => absurd (show Co01.ascii "name" = Co01.ascii "number" ∨ Co01.ascii "name" = Co01.ascii "at" ∨ Co01.ascii "name" = Co01.ascii "may" from q) (by decide), fun _ => rfl, fun q => absurd (show Co01.ascii "name" = Co01.ascii "pay" ∨ Co01.ascii "name" = Co01.ascii "times" ∨ Co01.ascii "name" = Co01.ascii "stop" ∨ Co01.ascii "name" = Co01.ascii "if" from q) (by decide)⟩
  | neg => exact no _ (by decide) _ _
  | not => exact no _ (by decide) _ _
  | and => exact no _ (by decide) _ _
  | or => exact no _ (by decide) _ _
  | bin o => exact no _ (by cases o <;> decide) _ _
  | cmp o => exact no _ (by cases o <;> decide) _ _
theorem wat_xs {ns : List Co01.Bytes} {H : Hp} {as : List Addr} {s : List Mx.XS} (h : Tups H as (s.map xsTup)) (hf : ∀ x ∈ s, Mx.xFit ns x) : WAt Wr0 H (as.map V.ref) (s.map Mx.wx) := by
  induction s generalizing as with
  | nil => cases h; exact .nil
  | cons x s ih =>
    cases h with
    | cons e t => exact .cons (by rw [e, xsTup_eq]) (dtext_xs (hf x (by simp))) (ih t fun y hy => hf y (by simp [hy]))
theorem wr_xs {ns : List Co01.Bytes} {H : Hp} {a : Addr} {s : List Mx.XS} {x z : Co01.Bytes} (h : XsAt H a s) (hf : Mx.XFit ns s) (hr : Mx.wsteps (s.map Mx.wx) [] = some [(x, z)]) : Wr1 H a z := by
  obtain ⟨as, h1, h2⟩ := h
  refine ⟨_, _, x, h1, wat_xs h2 hf.1, fun y hy => ?_, hr, ?_, ?_⟩
  · obtain ⟨u, _, rfl⟩ := List.mem_map.mp hy
    exact wdX_in u
  · rw [List.length_map]; exact Nat.le_trans hf.2.1 (by omega)
  · exact Nat.le_trans hf.2.2 (by omega)
theorem xs_len {ns : List Co01.Bytes} {s : List Mx.XS} {x z : Co01.Bytes} (hf : Mx.XFit ns s) (hr : Mx.wsteps (s.map Mx.wx) [] = some [(x, z)]) : z.length ≤ 20000 := by
  have := Mx.wsteps_len (fun y hy => by obtain ⟨u, _, rfl⟩ := List.mem_map.mp hy; exact wdX_in u) hr
  have e : Mx.lenW [(x, z)] = z.length := by simp [Mx.lenW]
  have e0 : Mx.lenW [] = 0 := rfl
  have := hf.2.2
  omega
/-- a step's word tells its detail -/
def Kind (x : Mx.St) : Prop := ((x.w = Co01.ascii "at" ∨ x.w = Co01.ascii "may") → ∃ k, x.d = .num k) ∧ ((x.w = Co01.ascii "pay" ∨ x.w = Co01.ascii "times") → ∃ e, x.d = .exp e) ∧ ((x.w = Co01.ascii "stop" ∨ x.w = Co01.ascii "if") → ∃ c, x.d = .cond c) ∧ x.w ≠ Co01.ascii "number" ∧ x.w ≠ Co01.ascii "name"
theorem kind_post : ∀ a : Co01.Ag, ∀ x ∈ Mx.post a, Kind x := by
  have one : ∀ {y : Mx.St}, Kind y → ∀ x ∈ [y], Kind x := fun h x hx => by rw [List.mem_singleton] at hx; subst hx; exact h
  have n0 : ∀ z : String, (Co01.ascii z ≠ Co01.ascii "at" ∧ Co01.ascii z ≠ Co01.ascii "may" ∧ Co01.ascii z ≠ Co01.ascii "pay" ∧ Co01.ascii z ≠ Co01.ascii "times" ∧ Co01.ascii z ≠ Co01.ascii "stop" ∧ Co01.ascii z ≠ Co01.ascii "if" ∧ Co01.ascii z ≠ Co01.ascii "number" ∧ Co01.ascii z ≠ Co01.ascii "name") → ∀ d, Kind (Mx.st z d) := fun z h d =>
    ⟨fun q => (q.elim h.1 h.2.1).elim, fun q => (q.elim h.2.2.1 h.2.2.2.1).elim, fun q => (q.elim h.2.2.2.2.1 h.2.2.2.2.2.1).elim, h.2.2.2.2.2.2.1, h.2.2.2.2.2.2.2⟩
  have nk : ∀ z : String, (Co01.ascii z ≠ Co01.ascii "pay" ∧ Co01.ascii z ≠ Co01.ascii "times" ∧ Co01.ascii z ≠ Co01.ascii "stop" ∧ Co01.ascii z ≠ Co01.ascii "if" ∧ Co01.ascii z ≠ Co01.ascii "number" ∧ Co01.ascii z ≠ Co01.ascii "name") → ∀ k, Kind (Mx.st z (.num k)) := fun z h k =>
    ⟨fun _ => ⟨k, rfl⟩, fun q => (q.elim h.1 h.2.1).elim, fun q => (q.elim h.2.2.1 h.2.2.2.1).elim, h.2.2.2.2.1, h.2.2.2.2.2⟩
  have ne : ∀ z : String, (Co01.ascii z ≠ Co01.ascii "at" ∧ Co01.ascii z ≠ Co01.ascii "may" ∧ Co01.ascii z ≠ Co01.ascii "stop" ∧ Co01.ascii z ≠ Co01.ascii "if" ∧ Co01.ascii z ≠ Co01.ascii "number" ∧ Co01.ascii z ≠ Co01.ascii "name") → ∀ e, Kind (Mx.st z (.exp e)) := fun z h k =>
    ⟨fun q => (q.elim h.1 h.2.1).elim, fun _ => ⟨k, rfl⟩, fun q => (q.elim h.2.2.1 h.2.2.2.1).elim, h.2.2.2.2.1, h.2.2.2.2.2⟩
  have nc : ∀ z : String, (Co01.ascii z ≠ Co01.ascii "at" ∧ Co01.ascii z ≠ Co01.ascii "may" ∧ Co01.ascii z ≠ Co01.ascii "pay" ∧ Co01.ascii z ≠ Co01.ascii "times" ∧ Co01.ascii z ≠ Co01.ascii "number" ∧ Co01.ascii z ≠ Co01.ascii "name") → ∀ e, Kind (Mx.st z (.cond e)) := fun z h k =>
    ⟨fun q => (q.elim h.1 h.2.1).elim, fun q => (q.elim h.2.2.1 h.2.2.2.1).elim, fun _ => ⟨k, rfl⟩, h.2.2.2.2.1, h.2.2.2.2.2⟩
  intro a
  induction a with
  | nothing => exact one (n0 "nothing" (by decide) _)
  | pay e => exact one (ne "pay" (by decide) e)
  | both a b iha ihb => exact fun x hx => (List.mem_append.mp hx).elim (fun h => (List.mem_append.mp h).elim (iha x) (ihb x)) (one (n0 "and" (by decide) _) x)
  | or a b iha ihb => exact fun x hx => (List.mem_append.mp hx).elim (fun h => (List.mem_append.mp h).elim (iha x) (ihb x)) (one (n0 "or" (by decide) _) x)
  | else_ a b iha ihb => exact fun x hx => (List.mem_append.mp hx).elim (fun h => (List.mem_append.mp h).elim (iha x) (ihb x)) (one (n0 "else" (by decide) _) x)
  | if_ c a b iha ihb => exact fun x hx => (List.mem_append.mp hx).elim (fun h => (List.mem_append.mp h).elim (iha x) (ihb x)) (one (nc "if" (by decide) c) x)
  | at_ k a ih => exact fun x hx => (List.mem_append.mp hx).elim (ih x) (one (nk "at" (by decide) k) x)
  | may k a ih => exact fun x hx => (List.mem_append.mp hx).elim (ih x) (one (nk "may" (by decide) k) x)
  | give a ih => exact fun x hx => (List.mem_append.mp hx).elim (ih x) (one (n0 "give" (by decide) _) x)
  | times e a ih => exact fun x hx => (List.mem_append.mp hx).elim (ih x) (one (ne "times" (by decide) e) x)
  | halt_ c a ih => exact fun x hx => (List.mem_append.mp hx).elim (ih x) (one (nc "stop" (by decide) c) x)
theorem num_small {k : Nat} (h : k < 10000000) : k.log2 < 1920 := by
  by_cases z : k = 0
  · subst z; decide
  · have : k < 2 ^ 24 := Nat.lt_of_lt_of_le h (by decide)
    have := Mx.log2_lt z this
    omega
theorem dtext_st {ns : List Co01.Bytes} {H : Hp} {x : Mx.St} {dv : V} (hk : Kind x) (hf : Mx.SFit ns x) (hd : DetAt H x.d dv) : DText Wr1 H x.w dv (Mx.dtA x.d) := by
  obtain ⟨k1, k2, k3, k4, k5⟩ := hk
  obtain ⟨u, d⟩ := x
  dsimp only at k1 k2 k3 k4 k5 hd ⊢
  refine ⟨fun q => ?_, fun q => (k5 q).elim, fun q => ?_⟩
  · obtain ⟨k, rfl⟩ := k1 (q.elim (fun h => (k4 h).elim) id)
    exact ⟨k, hd, num_small hf, rfl⟩
  · rcases q with q | q | q | q
    · obtain ⟨e, rfl⟩ := k2 (.inl q)
      obtain ⟨a, rfl, h⟩ := hd
      exact ⟨a, rfl, wr_xs h hf.1 (Mx.wsteps_E e [])⟩
    · obtain ⟨e, rfl⟩ := k2 (.inr q)
      obtain ⟨a, rfl, h⟩ := hd
      exact ⟨a, rfl, wr_xs h hf.1 (Mx.wsteps_E e [])⟩
    · obtain ⟨e, rfl⟩ := k3 (.inl q)
      obtain ⟨a, rfl, h⟩ := hd
      exact ⟨a, rfl, wr_xs h hf (Mx.wsteps_C e [])⟩
    · obtain ⟨e, rfl⟩ := k3 (.inr q)
      obtain ⟨a, rfl, h⟩ := hd
      exact ⟨a, rfl, wr_xs h hf (Mx.wsteps_C e [])⟩
theorem wat_st {ns : List Co01.Bytes} {H : Hp} {vs : List V} {l : List Mx.St} (h : StepsAt H vs l) (hk : ∀ x ∈ l, Kind x) (hf : ∀ x ∈ l, Mx.SFit ns x) : WAt Wr1 H vs (l.map Mx.wa) := by
  induction h with
  | nil => exact .nil
  | @cons v x vs xs h1 _ ih =>
    obtain ⟨b, dv, rfl, e, hd⟩ := h1
    exact .cons e (dtext_st (hk x (by simp)) (hf x (by simp)) hd) (ih (fun y hy => hk y (by simp [hy])) fun y hy => hf y (by simp [hy]))
theorem cost_st {ns : List Co01.Bytes} {l : List Mx.St} (hf : ∀ x ∈ l, Mx.SFit ns x) : Mx.costW (l.map Mx.wa) ≤ 20060 * l.length := by
  induction l with
  | nil => exact Nat.le_refl _
  | cons x l ih =>
    have h1 := ih fun y hy => hf y (by simp [hy])
    have h2 := hf x (by simp)
    have h3 : Mx.costW ((x :: l).map Mx.wa) = (Mx.dtA x.d).length + 60 + Mx.costW (l.map Mx.wa) := by simp [Mx.costW]
    have h4 : (Mx.dtA x.d).length ≤ 20000 := by
      obtain ⟨u, d⟩ := x
      cases d with
      | none => show 0 ≤ 20000; omega
      | num k => have := Mx.digits_len k 6 h2; show (Co01.ascii (toString k)).length ≤ 20000; omega
      | exp e => exact xs_len h2.1 (Mx.wsteps_E e [])
      | cond e => exact xs_len h2 (Mx.wsteps_C e [])
    rw [h3, List.length_cons]; omega
theorem wr_ag {ns : List Co01.Bytes} {H : Hp} {a : Addr} {g : Co01.Ag} (h : AgAt H a (Mx.post g)) (ok : GOk ns g) : Wr2 H a (Co01.text 0 g) := by
  obtain ⟨vs, h1, h2⟩ := h
  refine ⟨vs, _, Mx.topA g, h1, wat_st h2 (kind_post g) ok.fit, fun y hy => ?_, Mx.wsteps_A g [], ?_, ?_⟩
  · obtain ⟨u, hu, rfl⟩ := List.mem_map.mp hy
    exact word_post g u hu
  · rw [List.length_map]; exact Nat.le_trans ok.len (by omega)
  · have := cost_st ok.fit
    have := ok.len
    omega
theorem ag_len {ns : List Co01.Bytes} {g : Co01.Ag} (ok : GOk ns g) : (Co01.text 0 g).length ≤ 9000000 := by
  have := Mx.wsteps_len (fun y hy => by obtain ⟨u, hu, rfl⟩ := List.mem_map.mp hy; exact word_post g u hu) (Mx.wsteps_A g [])
  have e : Mx.lenW [(Mx.topA g, Co01.text 0 g)] = (Co01.text 0 g).length := by simp [Mx.lenW]
  have e0 : Mx.lenW [] = 0 := rfl
  have := cost_st ok.fit
  have := ok.len
  omega
section
variable {P : Program} {w : World} {K : PySem.W.Frag} {mg : Str → Option Value} {base : Heap} {f : Addr} {fd : FuncData}
theorem ok_written0 (F : FnP K "written" sWritten f fd) : FnOk P w K mg base CX0 1 f fd ["steps"] (spWr Wr0) := by
  refine F.ok scWritten (fun vs H Q E h => ?_) (fun cdv A outer s H vs Q E hr h => ?_)
  · obtain ⟨a, z, rfl, _⟩ := h
    rfl
  · obtain ⟨a, z, _, h, _⟩ := h
    exact h.elim
/-- written, of an agreement -/
theorem ok_writtenA {f1 f2 f3 f4 f5 : Addr} {fd1 fd2 fd3 fd4 fd5 : FuncData} (F : FnP K "written" sWritten f fd) (mW : mg "written" = some (.ref f)) (gZ : mg "zip" = none) (gK : KidsG w K mg) (gC : ClosG w K mg) (gS : mg "str" = none) (gL : mg "len" = none)
    (F1 : FnP K "taken_parts" sTaken f1 fd1) (m1 : mg "taken_parts" = some (.ref f1)) (G1 : FnOk P w K mg base CX0 1 f1 fd1 ["stack", "word"] spTaken)
    (F2 : FnP K "within_brackets" sBrack f2 fd2) (m2 : mg "within_brackets" = some (.ref f2))
    (F3 : FnP K "step_text" sStepT f3 fd3) (m3 : mg "step_text" = some (.ref f3))
    (F4 : FnP K "text_around_one" sOne f4 fd4) (m4 : mg "text_around_one" = some (.ref f4))
    (F5 : FnP K "text_around_two" sTwo f5 fd5) (m5 : mg "text_around_two" = some (.ref f5)) :
    FnOk P w K mg base CX0 7 f fd ["steps"] (spWr Wr2) := by
  have W0 : FnOk P w K mg base CX0 1 f fd ["steps"] (spWr Wr0) := ok_written0 F
  have GB : FnOk P w K mg base CX0 1 f2 fd2 ["word", "text", "closeness"] spBrack := ok_brack F2 gC
  have W1 : FnOk P w K mg base CX0 4 f fd ["steps"] (spWr Wr1) := ok_written F gZ gK stays0 F1 m1 G1 F2 m2 GB F3 m3 (ok_stepT F3 gS gL F mW W0 stays0 F4 m4 (ok_one F4 F mW W0 stays0) F5 m5 (ok_two F5 F mW W0 stays0))
  exact ok_written F gZ gK stays1 F1 m1 G1 F2 m2 GB F3 m3 (ok_stepT F3 gS gL F mW W1 stays1 F4 m4 (ok_one F4 F mW W1 stays1) F5 m5 (ok_two F5 F mW W1 stays1))
end
end Bd
end
section
set_option Elab.async false
set_option linter.all false
set_option maxRecDepth 100000
set_option maxHeartbeats 2000000
/-! dict(zip(keys, values)) of two lists, the keys apart. -/
namespace L2
open PySem PySem.Spec PyProof.Rows
theorem kv_zip : ∀ {ks : List Key} {ys : List V} {us : List Value}, Vals ys us → KV (ks.zip ys) (ks.zip us)
  | [], _, _, _ => by simp only [List.zip_nil_left]; exact .nil
  | k :: ks, [], us, r => by cases r; simp only [List.zip_nil_right]; exact .nil
  | k :: ks, y :: ys, _, r => by
    cases r with
    | cons h t => exact .cons ⟨rfl, h⟩ (kv_zip t)
theorem key_at {P : Program} {w : World} : ∀ {ks : List Key} {us : List Value}, Vals (ks.map kV) us → ∀ (i : Nat) (u : Value), us[i]? = some u → ∃ k, ks[i]? = some k ∧ (mixKind P w).is k u = true
  | [], us, r, i, u, e => by rw [List.map_nil] at r; cases r; simp at e
  | k :: ks, us, r, i, u, e => by
    rw [List.map_cons] at r
    cases r with
    | cons h t =>
      cases i with
      | zero =>
        rw [List.getElem?_cons_zero] at e
        cases e
        exact ⟨k, rfl, kV_is h⟩
      | succ i =>
        obtain ⟨k', h1, h2⟩ := key_at (P := P) (w := w) t i u (by simpa using e)
        exact ⟨k', by simpa using h1, h2⟩
def tDZip (K : PySem.W.Frag) (ta : TA) : TE := fun σ H Q => ta σ H fun vs H1 => ∃ (a b : Addr) (ks : List Key) (ys : List V), vs = [.ref a, .ref b] ∧ SqL K H1 a (ks.map kV) ∧ SqL K H1 b ys ∧ ks.length = ys.length ∧ ks.Nodup ∧
  ∀ p, H1 p = none → Q (.ref p) (upd H1 p (.dK (ks.zip ys)))
theorem zip_apart {n a b : Nat} (h1 : a < n) (h2 : b < n) : ZipApart (n + 4) (n + 2) (n + 3) n (n + 1) a b := by
  constructor <;> first | (show ¬ ((_ : Nat) = _); omega)
theorem zip_old {n c : Nat} (h : c < n) : ¬ (c = n + 4 ∨ c = n + 3 ∨ c = n ∨ c = n + 1) := by omega
theorem pe_dzip {X : Cx} {e e2 : Expr} {ta : TA} {p p2 pos pos2 : Pos} (hc : X.calm = true) (hg : Gl X "zip") (hm : X.mg "zip" = none) (hgd : Gl X "dict") (hmd : X.mg "dict" = none) (ha : PA X [e, e2] ta)
    (hs : starEach [e, e2] X.env = (false, eval e X.env) :: starEach [e2] X.env := by rfl) (hpl : (backTo pos (starEach [e2] X.env)).any (·.1) = false := by rfl)
    (ht : starEach [.Call (.Name "zip" p) [e, e2] [] pos] X.env = (false, eval (.Call (.Name "zip" p) [e, e2] [] pos) X.env) :: starEach [] X.env := by rfl) :
    PE X (.Call (.Name "dict" p2) [.Call (.Name "zip" p) [e, e2] [] pos] [] pos2) (tDZip X.K ta) := by
  refine ⟨fun pins s σ H Q I h => ?_⟩
  refine Call_ (ld_blt I hgd hmd PyProof.Rows.boot_dict (PyProof.Rows.callWith_type1 (he := ht) (hplain := rfl) ?_))
  rw [ht]
  show wpAny _ _ (spliced ((false, eval (.Call (.Name "zip" p) [e, e2] [] pos) X.env) :: backTo pos2 (starEach [] X.env))) _ _ s
  refine Calls.spliced_cons ?_
  refine Call_ (ld_blt I hg hm PyProof.Rows.boot_zip (PyProof.Rows.callWith_type1 (thn (ha.run pos pins s σ H _ I h) fun us s1 ⟨vs, H1, I1, r1, q1⟩ => ?_) hs hpl))
  obtain ⟨a, b, ks, ys, ex, hqx, hqy, hlen, hnd, q⟩ := q1
  subst ex
  cases r1 with
  | cons r rr =>
    cases rr with
    | cons r' rr =>
      cases rr
      cases r
      cases r'
      obtain ⟨its, rv, p1, _⟩ := I1.list hqx
      obtain ⟨its2, rv2, p2, hz2⟩ := I1.list hqy
      have la : a < s1.heap.objs.size := p1.lt
      have lb : b < s1.heap.objs.size := p2.lt
      have n1 : its.length = ks.length := by rw [← rv.length, List.length_map]
      have n2 : its2.length = ys.length := by rw [← rv2.length]
      refine zip_begins2 (begins_list a its.toArray) (begins_list b its2.toArray) p1.isList p2.isList fun h' hz hTI hTO h1 h2 hsz hk => ?_
      refine Calls.spliced_nil ?_
      have D : ZipApart (s1.heap.objs.size + 4) (s1.heap.objs.size + 2) (s1.heap.objs.size + 3) s1.heap.objs.size (s1.heap.objs.size + 1) a b := zip_apart la lb
      have P := PairArg.zip (prog := X.prog) (w := X.w) _ _ _ _ _ _ _ D its.toArray its2.toArray
      have hmin : min its.toArray.size its2.toArray.size = ks.length := by simp; omega
      have hb : PairsHave (mixKind X.prog X.w) (min its.toArray.size its2.toArray.size) (fun i k v => its.toArray[i]? = some k ∧ its2.toArray[i]? = some v) (ks.zip its2) := by
        refine ⟨by rw [hmin, List.length_zip]; omega, fun i key v hr => ?_⟩
        obtain ⟨e1, e2⟩ := hr
        obtain ⟨k, hk1, hk2⟩ := key_at (P := X.prog) (w := X.w) rv i key (by simpa using e1)
        refine ⟨k, ?_, hk2⟩
        have e2' : its2[i]? = some v := by simpa using e2
        rw [List.getElem?_zip_eq_some]
        exact ⟨hk1, e2'⟩
      have nd : ((ks.zip its2).map (·.1)).Nodup := by
        rw [List.map_fst_zip (by omega)]
        exact hnd
      refine _root_.PySem.call_dict_pairs (s := { s1 with heap := h' }) P (I.ok.hd hc) ⟨hz, hTI, ⟨_, _, hTO⟩, ⟨_, h1, rfl, rfl⟩, ⟨_, h2, rfl, rfl⟩, p1.isList.at fun o e => hk _ o e, p2.isList.at fun o e => hk _ o e⟩ hb (by rw [hmin, hlen]; exact hz2) fun h3 tk hd' hk2 => ?_
      rw [merged_nil_of_nodup _ nd] at hd'
      have kk : ∀ c o, s1.heap.get? c = some o → h3.get? c = some o := fun c o ec => hk2 c o (fun hm => by
        simp only [List.mem_cons, List.not_mem_nil, or_false] at hm
        exact zip_old (Heap.lt_size ec) hm) (hk c o ec)
      have hle : s1.heap.objs.size ≤ h'.objs.size := by omega
      have hsm : (h'.objs.size == sysModules) = false := beq_eq_false_iff_ne.mpr (Nat.ne_of_gt (Nat.lt_of_lt_of_le I1.big hle))
      have fr := I1.hok.fresh hle
      refine ⟨.ref h'.objs.size, upd H1 h'.objs.size (.dK (ks.zip ys)), I1.laid (t' := tk) kk hle (show ObjOk X.prog X.w _ _ _ (.dK (ks.zip ys)) from ⟨?_, hsm, ks.zip its2, kv_zip rv2, hd'⟩), rfl, q _ fr⟩
      rw [List.length_zip, hlen, Nat.min_self]
      exact hz2
end L2
end
section
set_option Elab.async false
set_option linter.all false
set_option maxRecDepth 100000
set_option maxHeartbeats 4000000
set_option autoImplicit false
namespace Bd
open PySem PySem.Spec PyProof.Rows L2
/-! ## what stays true from call to call, in plain words -/
theorem once_mem (l : List Co01.Bytes) : ∀ b ∈ Co01.once l, b ∈ l := by
  suffices ∀ (l acc : List Co01.Bytes), ∀ b ∈ l.foldl (fun (a : List Co01.Bytes) (x : Co01.Bytes) => if a.contains x = true then a else a ++ [x]) acc, b ∈ acc ∨ b ∈ l by
    intro b hb
    exact (this l [] b hb).elim (fun h => nomatch h) id
  intro l
  induction l with
  | nil => intro acc b hb; exact .inl hb
  | cons y l ih =>
    intro acc b hb
    rw [List.foldl_cons] at hb
    rcases ih _ b hb with h | h
    · by_cases c : acc.contains y = true
      · rw [if_pos c] at h; exact .inl h
      · rw [if_neg c] at h
        rcases List.mem_append.mp h with h | h
        · exact .inl h
        · exact .inr (by rw [List.mem_singleton] at h; simp [h])
    · exact .inr (List.mem_cons_of_mem _ h)
theorem once_nodup (l : List Co01.Bytes) : (Co01.once l).Nodup := by
  suffices ∀ (l acc : List Co01.Bytes), acc.Nodup → (l.foldl (fun (a : List Co01.Bytes) (x : Co01.Bytes) => if a.contains x = true then a else a ++ [x]) acc).Nodup from this l [] List.nodup_nil
  intro l
  induction l with
  | nil => intro acc h; exact h
  | cons y l ih =>
    intro acc h
    rw [List.foldl_cons]
    refine ih _ ?_
    by_cases c : acc.contains y = true
    · rw [if_pos c]; exact h
    · rw [if_neg c]
      refine List.nodup_append.mpr ⟨h, by simp, ?_⟩
      intro a ha b hb
      rw [List.mem_singleton] at hb
      subst hb
      rintro rfl
      exact c (by simpa using ha)
theorem tokNames_mem : ∀ {r : Co01.Rest} {b : Co01.Bytes}, b ∈ Mx.tokNames r → Co01.isName b = true ∧ ∃ p, (p, Co01.Tok.word b) ∈ r
  | (p, .word u) :: r, b, h => by
    have h : b ∈ (if Co01.isName u = true then u :: Mx.tokNames r else Mx.tokNames r) := h
    by_cases c : Co01.isName u = true
    · rw [if_pos c] at h
      rcases List.mem_cons.mp h with rfl | h
      · exact ⟨c, p, by simp⟩
      · obtain ⟨h1, q, h2⟩ := tokNames_mem h; exact ⟨h1, q, List.mem_cons_of_mem _ h2⟩
    · rw [if_neg c] at h
      obtain ⟨h1, q, h2⟩ := tokNames_mem h; exact ⟨h1, q, List.mem_cons_of_mem _ h2⟩
  | (p, .num n) :: r, b, h => by obtain ⟨h1, q, h2⟩ := tokNames_mem (r := r) h; exact ⟨h1, q, List.mem_cons_of_mem _ h2⟩
  | (p, .sign n) :: r, b, h => by obtain ⟨h1, q, h2⟩ := tokNames_mem (r := r) h; exact ⟨h1, q, List.mem_cons_of_mem _ h2⟩
theorem names_fine {t : Co01.Bytes} {a : Co01.Ag} (h : Co01.readText t = .ok a) : ∀ b ∈ Co01.once (Co01.names a), (∀ c ∈ b, Co01.small c = true) ∧ b.length ≤ 8 := fun b hb => by
  obtain ⟨r, n, h1, _, _, _, h2⟩ := Mx.read_ok h
  have hb := once_mem _ b hb
  rw [h2] at hb
  obtain ⟨h3, p, h4⟩ := tokNames_mem hb
  have h5 := (Mx.lex_fine _ _ _ _ h1).1 _ h4
  exact ⟨h5.2.2, h5.2.1 h3⟩
theorem gok_read {t : Co01.Bytes} {a : Co01.Ag} (h : Co01.readText t = .ok a) (ht : t.length ≤ 200) : GOk (Co01.once (Co01.names a)) a where
  plain := fun b hb => (names_fine h b hb).1
  fit := (Mx.fit_read h ht).1
  len := (Mx.fit_read h ht).2
  wt := by have := Mx.read_size h; omega
/-- what an agreement that stands keeps -/
structure NowOk (k : Nat) (n : Co01.Now) : Prop where
  gok : GOk n.names n.left
  four : n.names.length ≤ 4
  nd : n.names.Nodup
  short : ∀ b ∈ n.names, b.length ≤ 200
  fresh : n.last = none → n.paid = []
  begun : ∀ v, n.last = some v → Mx.Small v ∧ 1 ≤ n.next ∧ Mx.Settled (n.next - 1) v n.left ∧ ∃ z l, n.paid = (n.next - 1, z) :: l
  pk : n.paid.length ≤ k
theorem NowOk.mono {j k : Nat} {n : Co01.Now} (h : NowOk j n) (hk : j ≤ k) : NowOk k n := { h with pk := Nat.le_trans h.pk hk }
structure StOk (k : Nat) (s : Co01.St) : Prop where
  now : ∀ n, s.now = some n → NowOk k n
  past : ∀ n ∈ s.past, NowOk k n
  len : s.past.length ≤ 32
  names : ∀ n, s.now = some n → ∀ m ∈ s.past, m.names = n.names
  none : s.now = Option.none → s.past = []
theorem StOk.mono {j k : Nat} {s : Co01.St} (h : StOk j s) (hk : j ≤ k) : StOk k s := { h with now := fun n e => (h.now n e).mono hk, past := fun n e => (h.past n e).mono hk }
theorem stok_init : StOk 0 Co01.init := ⟨fun n h => (nomatch h), fun n h => (nomatch h), Nat.zero_le _, fun n h => (nomatch h), fun _ => rfl⟩
/-- what's observed -/
theorem seen_small {ns : List Co01.Bytes} {v : List Int} (h : ∀ x ∈ v, x.natAbs ≤ 1000000) : Mx.Small (ns.zip v) := fun b => by
  unfold Co01.seen
  cases e : (ns.zip v).find? fun x => x.1 == b with
  | none => show (0 : Int).natAbs ≤ _; decide
  | some y =>
    have := List.mem_of_find?_eq_some e
    exact h _ (List.of_mem_zip this).2
theorem seen_zip : ∀ {ns : List Co01.Bytes} {v : List Int} (b : Co01.Bytes), v.length = ns.length → b ∈ ns →
    valV ((ns.map fun n => (Sum.inr (sB n) : Key)).zip (v.map V.int)) (.inr (sB b)) = some (.int (Co01.seen (ns.zip v) b))
  | [], _, _, _, h => nomatch h
  | n :: ns, [], _, h, _ => by simp at h
  | n :: ns, x :: v, b, hl, hb => by
    by_cases c : n = b
    · subst c
      simp [valV, Co01.seen]
    · have hb' : b ∈ ns := (List.mem_cons.mp hb).resolve_left fun q => c q.symm
      have ih := seen_zip (ns := ns) (v := v) b (by simpa using hl) hb'
      have ne : ¬ (Sum.inr (sB n) : Key) = Sum.inr (sB b) := fun q => c (sB_inj.mp (Sum.inr.inj q))
      unfold valV Co01.seen at ih ⊢
      rw [List.map_cons, List.map_cons, List.zip_cons_cons, List.zip_cons_cons, List.find?_cons_of_neg (by simpa using ne), List.find?_cons_of_neg (by simpa using c)]
      exact ih
/-- the next standing, and what is kept -/
def goOn (s : Co01.St) (n m : Co01.Now) : Co01.St := ⟨some m, (n :: s.past).take 32⟩
theorem StOk.goOn {k : Nat} {s : Co01.St} {n m : Co01.Now} (h : StOk k s) (e : s.now = some n) (hm : NowOk k m) (hn : m.names = n.names) : StOk k (goOn s n m) where
  now := fun x q => by cases q; exact hm
  past := fun x q => by
    rcases List.mem_cons.mp (List.mem_of_mem_take q) with rfl | q
    · exact h.now _ e
    · exact h.past x q
  len := by show ((n :: s.past).take 32).length ≤ 32; rw [List.length_take]; omega
  names := fun x q y hy => by
    cases q
    rw [hn]
    rcases List.mem_cons.mp (List.mem_of_mem_take hy) with rfl | hy
    · rfl
    · exact h.names n e y hy
  none := fun q => nomatch q
theorem nowok_open {t : Co01.Bytes} {a : Co01.Ag} {d : Nat} (h : Co01.readText t = .ok a) (ht : t.length ≤ 200) (h4 : (Co01.once (Co01.names a)).length ≤ 4) : NowOk 0 ⟨Co01.once (Co01.names a), a, d, none, []⟩ where
  gok := gok_read h ht
  four := h4
  nd := once_nodup _
  short := fun b hb => Nat.le_trans (names_fine h b hb).2 (by omega)
  fresh := fun _ => rfl
  begun := fun v q => nomatch q
  pk := Nat.le_refl _
theorem nowok_day {k : Nat} {n : Co01.Now} {v : List Int} (h : NowOk k n) (hv : ∀ x ∈ v, x.natAbs ≤ 1000000) :
    NowOk (k + 1) ⟨n.names, (Co01.run n.next (n.names.zip v) n.left).1, n.next + 1, some (n.names.zip v), (n.next, (Co01.run n.next (n.names.zip v) n.left).2) :: n.paid⟩ where
  gok := h.gok.run (seen_small hv)
  four := h.four
  nd := h.nd
  short := h.short
  fresh := fun q => nomatch q
  begun := fun x q => by
    cases q
    exact ⟨seen_small hv, by show 1 ≤ n.next + 1; omega, Mx.run_settled n.next _ _, (Co01.run n.next (n.names.zip v) n.left).2, n.paid, rfl⟩
  pk := by show (_ :: n.paid).length ≤ _; rw [List.length_cons]; have := h.pk; omega
/-- what is chosen or begun -/
def settledNow (n : Co01.Now) (v : Co01.Seen) (g : Co01.Ag) : Co01.Now := { n with left := (Co01.run (n.next - 1) v g).1, paid := (match n.paid with
          | (d, z) :: l => (d, z + (Co01.run (n.next - 1) v g).2) :: l
          | [] => []) }
theorem nowok_settled {k : Nat} {n : Co01.Now} {v : Co01.Seen} {w : Bool} {i : Nat} (h : NowOk k n) (e : n.last = some v) : NowOk k (settledNow n v (Mx.chosen w i n.left)) := by
  obtain ⟨h1, h2, h3, z, l, h4⟩ := h.begun v e
  refine ⟨(h.gok.chosen w i).run h1, h.four, h.nd, h.short, fun q => ?_, fun x q => ?_, ?_⟩
  · have q : n.last = none := q
    rw [e] at q; cases q
  · have q : n.last = some x := q
    rw [e] at q
    cases q
    refine ⟨h1, h2, Mx.run_settled _ _ _, z + (Co01.run (n.next - 1) v (Mx.chosen w i n.left)).2, l, ?_⟩
    show (match n.paid with | (d, z) :: l => (d, z + (Co01.run (n.next - 1) v (Mx.chosen w i n.left)).2) :: l | [] => []) = _
    rw [h4]
    rfl
  · have := h.pk
    show (match n.paid with | (d, z) :: l => (d, z + (Co01.run (n.next - 1) v (Mx.chosen w i n.left)).2) :: l | [] => []).length ≤ k
    rw [h4] at this ⊢
    exact this
end Bd
end
section
set_option Elab.async false
set_option linter.all false
set_option maxRecDepth 100000
set_option maxHeartbeats 4000000
set_option autoImplicit false
namespace Bd
open PySem PySem.Spec PyProof.Rows L2
/-! ## how an agreement stands in the heap -/
structure StdTxt (K : PySem.W.Frag) (C : Addr) : Prop where
  cl : Cls K C
  nA : NoAttr K C "agreement"
  nD : NoAttr K C "next_day"
  nS : NoAttr K C "seen"
  nP : NoAttr K C "payments"
structure LineTxt (K : PySem.W.Frag) (C : Addr) : Prop where
  cl : Cls K C
  nW : NoAttr K C "now"
  nE : NoAttr K C "earlier"
  nN : NoAttr K C "names"
/-- all but these stays -/
def Chg (av : List Addr) (H H' : Hp) : Prop := (∀ b, H' b = none → H b = none) ∧ ∀ b o, H b = some o → b ∉ av → H' b = some o
/-- these are lists or instances -/
def Mut (av : List Addr) (H : Hp) : Prop := ∀ a ∈ av, (∃ l, H a = some (.lst l)) ∨ ∃ C dx fs, H a = some (.ins C dx fs)
theorem Same.chg {H H' : Hp} (k : Same H H') (av : List Addr) : Chg av H H' := ⟨fun b e => k.free e, fun b o e _ => k b o e⟩
theorem Chg.refl (av : List Addr) (H : Hp) : Chg av H H := ⟨fun _ e => e, fun _ _ e _ => e⟩
theorem Chg.trans {av : List Addr} {A B C : Hp} (h : Chg av A B) (k : Chg av B C) : Chg av A C := ⟨fun b e => h.1 b (k.1 b e), fun b o e n => k.2 b o (h.2 b o e n) n⟩
theorem Chg.more {av av' : List Addr} {A B : Hp} (h : Chg av A B) (hs : ∀ a ∈ av, a ∈ av') : Chg av' A B := ⟨h.1, fun b o e n => h.2 b o e (fun q => n (hs b q))⟩
theorem Chg.tk {av : List Addr} {H H' : Hp} (k : Chg av H H') (m : Mut av H) : Tk H H' := fun b x e => k.2 b _ e fun q => by
  rcases m b q with ⟨l, h⟩ | ⟨C, dx, fs, h⟩ <;> (rw [e] at h; cases h)
theorem upd_none {H : Hp} {a b : Addr} {o : HO} (e : L2.upd H a o b = none) : H b = none := by
  by_cases c : b = a
  · rw [c, upd_same] at e; cases e
  · rw [upd_ne c] at e; exact e
theorem Chg.upd {av : List Addr} {A B : Hp} (h : Chg av A B) {a : Addr} (ha : a ∈ av) (o : HO) : Chg av A (L2.upd B a o) := ⟨fun b e => h.1 b (upd_none e), fun b x e n => by
  rw [upd_ne (fun q => n (by rw [q]; exact ha))]; exact h.2 b x e n⟩
theorem Chg.new {av : List Addr} {A B : Hp} (h : Chg av A B) {p : Addr} (hp : A p = none) (o : HO) : Chg av A (L2.upd B p o) := ⟨fun b e => h.1 b (upd_none e), fun b x e n => by
  rw [upd_ne (fun q => by rw [q, hp] at e; cases e)]; exact h.2 b x e n⟩
theorem made_same {H H6 : Hp} {o dxo : Addr} {u v : HO} (ho : H o = none) (hdx : H dxo = none) (b6 : ∀ b x, L2.upd (L2.upd H dxo u) o v b = some x → b ≠ o → H6 b = some x) : Same H H6 := fun c x e =>
  b6 c x (by rw [upd_ne (fun z => by rw [z, ho] at e; cases e), upd_ne (fun z => by rw [z, hdx] at e; cases e)]; exact e) (fun z => by rw [z, ho] at e; cases e)
theorem Chg.seen {av : List Addr} {H H' : Hp} (k : Chg av H H') (m : Mut av H) {d : Addr} {v : Co01.Seen} {ns : List Co01.Bytes} (h : SeenAt H d v ns) : SeenAt H' d v ns := by
  obtain ⟨kvs, h1, h2⟩ := h
  refine ⟨kvs, k.2 _ _ h1 fun q => ?_, h2⟩
  rcases m d q with ⟨l, h⟩ | ⟨C, dx, fs, h⟩ <;> (rw [h1] at h; cases h)
/-- what was observed, or nothing -/
def SeenV (H : Hp) (sv : V) (n : Co01.Now) : Prop := match n.last with
  | none => sv = .non
  | some v => ∃ d, sv = .ref d ∧ SeenAt H d v n.names
def payT (x : Nat × Int) : List V := [.int x.1, .int x.2]
/-- each day that began, what was paid on it -/
def PayAt (H : Hp) (pm : Addr) (paid : List (Nat × Int)) : Prop := ∃ as : List Addr, H pm = some (.lst (as.map V.ref)) ∧ Tups H as (paid.reverse.map payT)
def StdAt (C : Addr) (H : Hp) (av : List Addr) (x : Addr) (n : Co01.Now) : Prop := ∃ (dx ag pm : Addr) (sv : V),
  H x = some (.ins C dx [("agreement", .ref ag), ("next_day", .int n.next), ("seen", sv), ("payments", .ref pm)]) ∧ AgAt H ag (Mx.post n.left) ∧ SeenV H sv n ∧ PayAt H pm n.paid ∧ x ∉ av ∧ pm ∉ av
theorem StdAt.keeps {C : Addr} {H H' : Hp} {av cv av' : List Addr} {x : Addr} {n : Co01.Now} (h : StdAt C H av x n) (k : Chg cv H H') (m : Mut cv H) (hc : ∀ a ∈ cv, a ∈ av) (hv : ∀ a ∈ av', a ∈ av ∨ H a = none) : StdAt C H' av' x n := by
  obtain ⟨dx, ag, pm, sv, h1, h2, h3, ⟨as, h4, h5⟩, nx, np⟩ := h
  have tk := k.tk m
  refine ⟨dx, ag, pm, sv, k.2 _ _ h1 (fun q => nx (hc _ q)), h2.keeps tk, ?_, ⟨as, k.2 _ _ h4 (fun q => np (hc _ q)), h5.keeps tk⟩, fun q => ?_, fun q => ?_⟩
  · unfold SeenV at h3 ⊢
    cases e : n.last with
    | none => rw [e] at h3; exact h3
    | some v =>
      rw [e] at h3
      obtain ⟨d, e1, e2⟩ := h3
      exact ⟨d, e1, k.seen m e2⟩
  · rcases hv _ q with q | q
    · exact nx q
    · rw [h1] at q; cases q
  · rcases hv _ q with q | q
    · exact np q
    · rw [h4] at q; cases q
def Stds (C : Addr) (H : Hp) (av : List Addr) (xs : List Addr) (ns : List Co01.Now) : Prop := xs.length = ns.length ∧ ∀ (i : Nat) (x : Addr) (n : Co01.Now), xs[i]? = some x → ns[i]? = some n → StdAt C H av x n
theorem Stds.keeps {C : Addr} {H H' : Hp} {av cv av' : List Addr} {xs : List Addr} {ns : List Co01.Now} (h : Stds C H av xs ns) (k : Chg cv H H') (m : Mut cv H) (hc : ∀ a ∈ cv, a ∈ av) (hv : ∀ a ∈ av', a ∈ av ∨ H a = none) : Stds C H' av' xs ns :=
  ⟨h.1, fun i x n e1 e2 => (h.2 i x n e1 e2).keeps k m hc hv⟩
theorem Stds.snoc {C : Addr} {H : Hp} {av : List Addr} {xs : List Addr} {ns : List Co01.Now} (h : Stds C H av xs ns) {x : Addr} {n : Co01.Now} (hx : StdAt C H av x n) : Stds C H av (xs ++ [x]) (ns ++ [n]) := by
  refine ⟨by simp [h.1], fun i y m e1 e2 => ?_⟩
  have hl := h.1
  by_cases c : i < xs.length
  · rw [List.getElem?_append_left c] at e1
    rw [List.getElem?_append_left (by omega)] at e2
    exact h.2 i y m e1 e2
  · rw [List.getElem?_append_right (by omega)] at e1
    rw [List.getElem?_append_right (by omega)] at e2
    have : i - xs.length = 0 := by
      have := (List.getElem?_eq_some_iff.mp e1).1
      simp at this; omega
    rw [this] at e1
    rw [← hl, this] at e2
    cases e1; cases e2
    exact hx
theorem Stds.drop {C : Addr} {H : Hp} {av : List Addr} {xs : List Addr} {ns : List Co01.Now} (h : Stds C H av xs ns) (k : Nat) : Stds C H av (xs.drop k) (ns.drop k) := by
  refine ⟨by simp [h.1], fun i y m e1 e2 => ?_⟩
  rw [List.getElem?_drop] at e1 e2
  exact h.2 _ y m e1 e2
theorem Stds.front {C : Addr} {H : Hp} {av : List Addr} {xs : List Addr} {ns : List Co01.Now} (h : Stds C H av xs ns) : Stds C H av xs.dropLast ns.dropLast := by
  refine ⟨by simp [h.1], fun i y m e1 e2 => ?_⟩
  rw [List.getElem?_dropLast] at e1 e2
  split at e1
  · split at e2
    · exact h.2 _ y m e1 e2
    · cases e2
  · cases e1
def NowV (C : Addr) (H : Hp) (av : List Addr) (nw : V) : Option Co01.Now → Prop
  | none => nw = .non
  | some n => ∃ x, nw = .ref x ∧ StdAt C H av x n
/-- a line at ln: its list of earlier standings at er; tl: a list that is none of its own -/
structure LineAt (CS CL : Addr) (H : Hp) (ln er tl : Addr) (s : Co01.St) (dx nm : Addr) (nw : V) (xs : List Addr) (ns : List Co01.Bytes) : Prop where
  obj : H ln = some (.ins CL dx [("now", nw), ("earlier", .ref er), ("names", .ref nm)])
  now : NowV CS H [ln, er, tl] nw s.now
  lst : H er = some (.lst (xs.map V.ref))
  past : Stds CS H [ln, er, tl] xs s.past.reverse
  nmE : nm ≠ er
  nmT : nm ≠ tl
  nms : H nm = some (.lst (texts ns))
  same : ∀ n, s.now = some n → n.names = ns
  erT : er ≠ tl
  tl : ∃ l, H tl = some (.lst l)
def LnAt (CS CL : Addr) (H : Hp) (ln er tl : Addr) (s : Co01.St) : Prop := ∃ dx nm nw xs ns, LineAt CS CL H ln er tl s dx nm nw xs ns
section
variable {CS CL : Addr} {H H' : Hp} {ln er tl dx nm : Addr} {s : Co01.St} {nw : V} {xs : List Addr} {ns : List Co01.Bytes}
theorem LineAt.mut (h : LineAt CS CL H ln er tl s dx nm nw xs ns) : Mut [ln, er, tl] H := fun a ha => by
  simp only [List.mem_cons, List.not_mem_nil, or_false] at ha
  rcases ha with rfl | rfl | rfl
  · exact .inr ⟨_, _, _, h.obj⟩
  · exact .inl ⟨_, h.lst⟩
  · exact .inl h.tl
theorem LineAt.ln_er (h : LineAt CS CL H ln er tl s dx nm nw xs ns) : ln ≠ er := fun q => by
  have h1 := h.obj; rw [q, h.lst] at h1; cases h1
theorem LineAt.ln_tl (h : LineAt CS CL H ln er tl s dx nm nw xs ns) : ln ≠ tl := fun q => by
  obtain ⟨l, h2⟩ := h.tl
  have h1 := h.obj; rw [q, h2] at h1; cases h1
theorem LineAt.ln_nm (h : LineAt CS CL H ln er tl s dx nm nw xs ns) : nm ≠ ln := fun q => by
  have h1 := h.nms; rw [q, h.obj] at h1; cases h1
theorem NowV.keeps {av cv av' : List Addr} {o : Option Co01.Now} (h : NowV CS H av nw o) (k : Chg cv H H') (m : Mut cv H) (hc : ∀ a ∈ cv, a ∈ av) (hv : ∀ a ∈ av', a ∈ av ∨ H a = none) : NowV CS H' av' nw o := by
  cases o with
  | none => exact h
  | some n => obtain ⟨x, e, h⟩ := h; exact ⟨x, e, h.keeps k m hc hv⟩
theorem mut_nil : Mut [] H := fun a ha => nomatch ha
theorem LineAt.keeps (h : LineAt CS CL H ln er tl s dx nm nw xs ns) (k : Same H H') : LineAt CS CL H' ln er tl s dx nm nw xs ns where
  obj := k _ _ h.obj
  now := h.now.keeps (Bd.Same.chg k []) mut_nil (fun _ q => nomatch q) (fun _ q => .inl q)
  lst := k _ _ h.lst
  past := h.past.keeps (Bd.Same.chg k []) mut_nil (fun _ q => nomatch q) (fun _ q => .inl q)
  nmE := h.nmE
  nmT := h.nmT
  nms := k _ _ h.nms
  same := h.same
  erT := h.erT
  tl := by obtain ⟨l, e⟩ := h.tl; exact ⟨l, k _ _ e⟩
theorem LnAt.keeps (h : LnAt CS CL H ln er tl s) (k : Same H H') : LnAt CS CL H' ln er tl s := by
  obtain ⟨dx, nm, nw, xs, ns, h⟩ := h
  exact ⟨dx, nm, nw, xs, ns, h.keeps k⟩
/-- another list grows -/
theorem LnAt.told (h : LnAt CS CL H ln er tl s) (l : List V) : LnAt CS CL (L2.upd H tl (.lst l)) ln er tl s := by
  obtain ⟨dx, nm, nw, xs, ns, h⟩ := h
  have k : Chg [tl] H (L2.upd H tl (.lst l)) := (Chg.refl [tl] H).upd (by simp) _
  have m : Mut [tl] H := fun a ha => h.mut a (by simp at ha; simp [ha])
  exact ⟨dx, nm, nw, xs, ns,
    { obj := by rw [upd_ne h.ln_tl]; exact h.obj
      now := h.now.keeps k m (by simp) (fun _ q => .inl q)
      lst := by rw [upd_ne h.erT]; exact h.lst
      past := h.past.keeps k m (by simp) (fun _ q => .inl q)
      nmE := h.nmE
      nmT := h.nmT
      nms := by rw [upd_ne h.nmT]; exact h.nms
      same := h.same
      erT := h.erT
      tl := ⟨l, upd_same⟩ }⟩
end
section
variable {P : Program} {w : World} {K : PySem.W.Frag} {mg : Str → Option Value} {base : Heap} {f : Addr} {fd : FuncData}
/-! ## Standing.__init__ -/
abbrev sStdI : Stmt := inClass (top 73) 0
def spStdI (C : Addr) : Sp := fun vs H Q _ => ∃ (o dx ag pm : Addr) (d : Int) (sv : V), vs = [.ref o, .ref ag, .int d, sv, .ref pm] ∧ H o = some (.ins C dx []) ∧
  ∀ H' : Hp, H' o = some (.ins C dx [("agreement", .ref ag), ("next_day", .int d), ("seen", sv), ("payments", .ref pm)]) → (∀ b x, H b = some x → b ≠ o → H' b = some x) → Q .non H'
theorem scStdI : FnScope ["self", "agreement", "next_day", "seen", "payments"] ["self", "agreement", "next_day", "seen", "payments"] (defScope sStdI) := ⟨rfl, rfl, rfl, by decide +kernel, rfl, by decide +kernel, by decide +kernel⟩
theorem ok_stdI {C : Addr} (F : L2.Fun K "__init__" "Standing.__init__" sStdI f fd) (T : StdTxt K C) : FnOk P w K mg base CX0 1 f fd ["self", "agreement", "next_day", "seen", "payments"] (spStdI C) := by
  refine F.ok scStdI (fun vs H Q E h => ?_) (fun cdv A outer s H vs Q E hr h => ⟨_, pss_cons (ps_fld (pv 0) (pv 1) rfl) (pss_cons (ps_fld (pv 0) (pv 2) rfl) (pss_cons (ps_fld (pv 0) (pv 3) rfl) (pss_one (ps_fld (pv 0) (pv 4) rfl)))), ?_⟩)
  · obtain ⟨o, dx, ag, pm, d, sv, rfl, _⟩ := h
    rfl
  · obtain ⟨o, dx, ag, pm, d, sv, rfl, ho, q⟩ := h
    refine ⟨_, rfl, _, rfl, o, C, dx, [], rfl, ho, T.cl, T.nA, (by show 0 < 1000; decide), ?_⟩
    refine ⟨_, rfl, _, rfl, o, C, dx, _, rfl, upd_same, T.cl, T.nD, (by show 1 < 1000; decide), ?_⟩
    refine ⟨_, rfl, _, rfl, o, C, dx, _, rfl, upd_same, T.cl, T.nS, (by show 2 < 1000; decide), ?_⟩
    refine ⟨_, rfl, _, rfl, o, C, dx, _, rfl, upd_same, T.cl, T.nP, (by show 3 < 1000; decide), ?_⟩
    refine q _ (upd_same.trans ?_) fun b x e hb => ?_
    · congr 1
    · rw [upd_ne hb, upd_ne hb, upd_ne hb, upd_ne hb]
      exact e
/-! ## Line.__init__ -/
abbrev sLnI : Stmt := inClass (top 74) 0
def spLnI (C : Addr) : Sp := fun vs H Q _ => ∃ (o dx : Addr), vs = [.ref o] ∧ H o = some (.ins C dx []) ∧
  ∀ (H' : Hp) (er nm : Addr), H er = none → H nm = none → nm ≠ er → H' o = some (.ins C dx [("now", .non), ("earlier", .ref er), ("names", .ref nm)]) → H' er = some (.lst []) → H' nm = some (.lst []) → (∀ b x, H b = some x → b ≠ o → H' b = some x) → Q .non H'
theorem scLnI : FnScope ["self"] ["self"] (defScope sLnI) := ⟨rfl, rfl, rfl, by decide +kernel, rfl, by decide +kernel, by decide +kernel⟩
theorem ok_lnI {C : Addr} (F : L2.Fun K "__init__" "Line.__init__" sLnI f fd) (T : LineTxt K C) : FnOk P w K mg base CX0 1 f fd ["self"] (spLnI C) := by
  refine F.ok scLnI (fun vs H Q E h => ?_) (fun cdv A outer s H vs Q E hr h => ⟨_, pss_cons (ps_fld (pv 0) pe_non rfl) (pss_cons (ps_fld (pv 0) (pe_lst pa_nil) rfl) (pss_one (ps_fld (pv 0) (pe_lst pa_nil) rfl))), ?_⟩)
  · obtain ⟨o, dx, rfl, _⟩ := h
    rfl
  · obtain ⟨o, dx, rfl, ho, q⟩ := h
    refine ⟨_, rfl, o, C, dx, [], rfl, ho, T.cl, T.nW, (by show 0 < 1000; decide), ?_⟩
    refine ⟨(by decide), fun er her => ?_⟩
    have e1 : o ≠ er := fun z => by rw [← z, upd_same] at her; cases her
    rw [upd_ne (Ne.symm e1)] at her
    refine ⟨_, rfl, o, C, dx, _, rfl, (by rw [upd_ne e1]; exact upd_same), T.cl, T.nE, (by show 1 < 1000; decide), ?_⟩
    refine ⟨(by decide), fun nm hnm => ?_⟩
    have e2 : o ≠ nm := fun z => by rw [← z, upd_same] at hnm; cases hnm
    rw [upd_ne (Ne.symm e2)] at hnm
    have e3 : nm ≠ er := fun z => by rw [z, upd_same] at hnm; cases hnm
    rw [upd_ne e3, upd_ne (Ne.symm e2)] at hnm
    refine ⟨_, rfl, o, C, dx, _, rfl, (by rw [upd_ne e2]; exact upd_same), T.cl, T.nN, (by show 2 < 1000; decide), ?_⟩
    refine q _ er nm her hnm e3 (upd_same.trans ?_) ?_ ?_ fun b x e hb => ?_
    · congr 1
    · rw [upd_ne (Ne.symm e1), upd_ne (Ne.symm e3), upd_ne (Ne.symm e1)]; exact upd_same
    · rw [upd_ne (Ne.symm e2)]; exact upd_same
    · rw [upd_ne hb, upd_ne (fun z => by rw [z, hnm] at e; cases e), upd_ne hb, upd_ne (fun z => by rw [z, her] at e; cases e), upd_ne hb]
      exact e
end
end Bd
end
section
set_option Elab.async false
set_option linter.all false
set_option maxRecDepth 100000
set_option maxHeartbeats 4000000
set_option autoImplicit false
namespace Bd
open PySem PySem.Spec PyProof.Rows L2
theorem cutV_back (ys : List V) (k : Nat) (hk : 0 < k) : cutV ys (some (-(k : Int))) none = ys.drop (ys.length - k) := by
  unfold cutV
  have e1 : HT.sIx ys.length 0 (some (-(k : Int))) = ys.length - k := by
    show (if -(k : Int) < 0 then (-(k : Int) + (ys.length : Int)).toNat else min (-(k : Int)).toNat ys.length) = _
    rw [if_pos (by omega)]; omega
  rw [e1, HT.sIx_none, List.take_of_length_le (by rw [List.length_drop]; exact Nat.le_refl _)]
theorem cutV_front (ys : List V) : cutV ys none (some (-1)) = ys.dropLast := by
  unfold cutV
  have e1 : HT.sIx ys.length ys.length (some (-1)) = ys.length - 1 := by
    show (if (-1 : Int) < 0 then (-1 + (ys.length : Int)).toNat else min (-1 : Int).toNat ys.length) = _
    rw [if_pos (by omega)]; omega
  rw [e1, HT.sIx_none, List.drop_zero, Nat.sub_zero, List.dropLast_eq_take]
/-- a refusal told -/
def Told (H : Hp) (Q : VK) (l : List Int) : Prop := ∀ (H' : Hp) (r : Addr), Same H H' → H r = none → AnsAt H' r l → Q (.ref r) H'
section
variable {P : Program} {w : World} {K : PySem.W.Frag} {mg : Str → Option Value} {base : Heap} {f : Addr} {fd : FuncData} {CS CL : Addr}
/-! ## refused_within_a_day -/
abbrev sRefW : Stmt := inClass (top 74) 9
def spRefW (CS CL : Addr) : Sp := fun vs H Q _ => ∃ (ln er tl : Addr) (s : Co01.St), vs = [.ref ln] ∧ LnAt CS CL H ln er tl s ∧
  match s.now with
  | none => Told H Q [-9]
  | some n => match n.last with
    | none => Told H Q [-4]
    | some _ => Q .non H
theorem scRefW : FnScope ["self"] ["self"] (defScope sRefW) := ⟨rfl, rfl, rfl, by decide +kernel, rfl, by decide +kernel, by decide +kernel⟩
theorem ok_refW {f1 : Addr} {fd1 : FuncData} (F : L2.Fun K "refused_within_a_day" "Line.refused_within_a_day" sRefW f fd) (T : LineTxt K CL) (TS : StdTxt K CS) (g9 : IntG mg "NO_AGREEMENT" 9) (g4 : IntG mg "NO_DAY" 4)
    (F1 : FnP K "refusal" sRefusal f1 fd1) (m1 : mg "refusal" = some (.ref f1)) (G1 : FnOk P w K mg base CX0 1 f1 fd1 ["number"] spRefusal) :
    FnOk P w K mg base CX0 2 f fd ["self"] (spRefW CS CL) := by
  have b1 : Binds K fd1 ["number"] [] := F1.binds fun _ _ _ _ _ _ us hl => match us, hl with | [_], _ => rfl
  refine F.ok scRefW (fun vs H Q E h => ?_) (fun cdv A outer s H vs Q E hr h => ⟨_, (pss_cons (ps_if (pt_cmpR op_isN (pe_fld (pv 0) rfl) pe_non (nomark _)) (pss_one (ps_ret (pe_call G1 hr rfl m1 F1.kp b1 .nil pass0 (pa_cons (pe_gint g9) pa_nil)))) pss_nil)
    (pss_cons (ps_if (pt_cmpR op_isN (pe_fld (pe_fld (pv 0) rfl) rfl) pe_non (nomark _)) (pss_one (ps_ret (pe_call G1 hr rfl m1 F1.kp b1 .nil pass0 (pa_cons (pe_gint g4) pa_nil)))) pss_nil)
    (pss_one (ps_ret pe_non)))), ?_⟩)
  · obtain ⟨ln, er, tl, s, rfl, _⟩ := h
    rfl
  · obtain ⟨ln, er, tl, s, rfl, ⟨dx, nm, nw, xs, ns, L⟩, q⟩ := h
    have hn := L.now
    refine ⟨_, rfl, ln, CL, dx, _, nw, rfl, L.obj, T.cl, T.nW, rfl, ?_⟩
    cases e : s.now with
    | none =>
      rw [e] at hn q
      obtain rfl : nw = .non := hn
      refine ⟨rfl, _, rfl, ?_⟩
      exact ⟨9, rfl, q⟩
    | some n =>
      rw [e] at hn q
      obtain ⟨x, rfl, sx, ag, pm, sv, h1, h2, h3, _⟩ := hn
      refine ⟨rfl, _, rfl, ?_⟩
      refine ⟨_, rfl, ln, CL, dx, _, .ref x, rfl, L.obj, T.cl, T.nW, rfl, x, CS, sx, _, sv, rfl, h1, TS.cl, TS.nS, rfl, ?_⟩
      unfold SeenV at h3
      cases e2 : n.last with
      | none =>
        rw [e2] at h3
        subst h3
        dsimp only at q
        rw [e2] at q
        refine ⟨rfl, _, rfl, ?_⟩
        exact ⟨4, rfl, q⟩
      | some v =>
        rw [e2] at h3
        obtain ⟨d, rfl, _⟩ := h3
        dsimp only at q
        rw [e2] at q
        exact ⟨rfl, _, rfl, q⟩
/-! ## place_of -/
abbrev sPlaceOf : Stmt := inClass (top 74) 11
def spPlaceOf (CS CL : Addr) : Sp := fun vs H Q _ => ∃ (ln er tl : Addr) (s : Co01.St) (n : Co01.Now) (i p : Nat) (sd : Bool), vs = [.ref ln, .int i] ∧ LnAt CS CL H ln er tl s ∧ s.now = some n ∧ (Mx.post n.left).length ≤ 900 ∧
  (Mx.waitsAt false 0 n.left)[i]? = some (p, sd) ∧ ∀ H', Same H H' → Q (.int p) H'
theorem scPlaceOf : FnScope ["self", "number"] ["self", "number"] (defScope sPlaceOf) := ⟨rfl, rfl, rfl, by decide +kernel, rfl, by decide +kernel, by decide +kernel⟩
theorem ok_placeOf {f1 : Addr} {fd1 : FuncData} (F : L2.Fun K "place_of" "Line.place_of" sPlaceOf f fd) (T : LineTxt K CL) (TS : StdTxt K CS)
    (F1 : FnP K "waiting_in" sWaitIn f1 fd1) (m1 : mg "waiting_in" = some (.ref f1)) (G1 : FnOk P w K mg base CX0 3 f1 fd1 ["agreement"] spWaitIn) :
    FnOk P w K mg base CX0 4 f fd ["self", "number"] (spPlaceOf CS CL) := by
  have b1 : Binds K fd1 ["agreement"] [] := F1.binds fun _ _ _ _ _ _ us hl => match us, hl with | [_], _ => rfl
  refine F.ok scPlaceOf (fun vs H Q E h => ?_) (fun cdv A outer s H vs Q E hr h => ⟨_, (pss_one (ps_ret (pe_ix ix_tup (pe_ix ix_list (pe_call G1 hr rfl m1 F1.kp b1 .nil pass0 (pa_cons (pe_fld (pe_fld (pv 0) rfl) rfl) pa_nil)) (pv 1) (fun _ _ => rfl)) pe_int (fun _ _ => rfl)))), ?_⟩)
  · obtain ⟨ln, er, tl, s, n, i, p, sd, rfl, _⟩ := h
    rfl
  · obtain ⟨ln, er, tl, s, n, i, p, sd, rfl, ⟨dx, nm, nw, xs, ns, L⟩, e, len, hi, q⟩ := h
    have hn := L.now
    rw [e] at hn
    obtain ⟨x, rfl, sx, ag, pm, sv, h1, h2, h3, _⟩ := hn
    refine ⟨_, rfl, ln, CL, dx, _, .ref x, rfl, L.obj, T.cl, T.nW, rfl, x, CS, sx, _, .ref ag, rfl, h1, TS.cl, TS.nA, rfl, ag, n.left, rfl, h2, len, fun H1 r k hr1 wt => ?_⟩
    obtain ⟨as, hr, tu⟩ := wt
    obtain ⟨b, y, hb, hy⟩ : ∃ b y, as[i]? = some b ∧ H1 b = some (.tup y) ∧ y = _ := by
      have hl := tu.length
      have hi' := (List.getElem?_eq_some_iff.mp hi).1
      rw [List.length_map] at hl
      obtain ⟨b, y, h1, h2, h3⟩ := tu.at_ (i := i) (v := .ref as[i]) (by simp)
      rw [List.getElem?_map, hi] at h2
      cases V.ref.inj h1
      exact ⟨as[i], y, List.getElem?_eq_getElem (by omega), h3, (Option.some.inj h2).symm⟩
    obtain ⟨hy, rfl⟩ := hy
    exact ⟨_, rfl, r, _, _, .ref b, rfl, rfl, .inl (.inl hr), atI_nat (by rw [List.getElem?_map, hb]; rfl), b, _, _, .int p, rfl, rfl, .inl (.inl hy), rfl, q _ k⟩
/-! ## move_on -/
abbrev sMoveOn : Stmt := inClass (top 74) 13
def spMoveOn (CS CL : Addr) : Sp := fun vs H Q _ => ∃ (ln er tl x : Addr) (s : Co01.St) (n m : Co01.Now), vs = [.ref ln, .ref x] ∧ LnAt CS CL H ln er tl s ∧ s.now = some n ∧ s.past.length ≤ 32 ∧ StdAt CS H [ln, er, tl] x m ∧ m.names = n.names ∧
  ∀ (H' : Hp) (er' : Addr), Chg [ln, er] H H' → H er' = none → LnAt CS CL H' ln er' tl (goOn s n m) → Q .non H'
theorem scMoveOn : FnScope ["self", "standing"] ["self", "standing"] (defScope sMoveOn) := ⟨rfl, rfl, rfl, by decide +kernel, rfl, by decide +kernel, by decide +kernel⟩
theorem ok_moveOn (F : L2.Fun K "move_on" "Line.move_on" sMoveOn f fd) (T : LineTxt K CL) (gM : IntG mg "MOST_TAKEN_BACK" 32) :
    FnOk P w K mg base CX0 1 f fd ["self", "standing"] (spMoveOn CS CL) := by
  refine F.ok scMoveOn (fun vs H Q E h => ?_) (fun cdv A outer s H vs Q E hr h => ⟨_, (pss_cons (ps_expr (pe_bm PySem.F.plainAttrs_list PySem.F.slot_list_append PySem.F.type_list_append mt_append (pe_fld (pv 0) rfl) (pa_cons (pe_fld (pv 0) rfl) pa_nil)))
    (pss_cons (ps_fld (pv 0) (pe_slice sl_list (pe_fld (pv 0) rfl) (po_some (pe_un un_neg (pe_gint gM))) po_none) rfl)
    (pss_one (ps_fld (pv 0) (pv 1) rfl)))), ?_⟩)
  · obtain ⟨ln, er, tl, x, s, n, m, rfl, _⟩ := h
    rfl
  · obtain ⟨ln, er, tl, x, s, n, m, rfl, ⟨dx, nm, nw, xs, ns, L⟩, e, len, hx, hm, q⟩ := h
    have hn := L.now
    rw [e] at hn
    obtain ⟨x0, rfl, hx0⟩ := hn
    have lx : xs.length = s.past.length := by have := L.past.1; rw [List.length_reverse] at this; exact this
    refine ⟨_, rfl, ln, CL, dx, _, .ref er, rfl, L.obj, T.cl, T.nE, rfl, .inl ⟨rfl, _, .inl (.inl L.lst)⟩, _, rfl, ln, CL, dx, _, .ref x0, rfl, L.obj, T.cl, T.nW, rfl, er, _, _, rfl, rfl, L.lst, ?_, ?_⟩
    · rw [List.length_map]; exact small1000 (by omega)
    have k1 : Chg [ln, er] H (L2.upd H er (.lst (xs.map V.ref ++ [.ref x0]))) := (Chg.refl _ _).upd (by simp) _
    have o1 : L2.upd H er (.lst (xs.map V.ref ++ [.ref x0])) ln = some (.ins CL dx [("now", .ref x0), ("earlier", .ref er), ("names", .ref nm)]) := by rw [upd_ne L.ln_er]; exact L.obj
    have l1 : L2.upd H er (.lst (xs.map V.ref ++ [.ref x0])) er = some (.lst ((xs ++ [x0]).map V.ref)) := by rw [upd_same, List.map_append]; rfl
    refine ⟨_, rfl, ln, CL, dx, _, .ref er, rfl, o1, T.cl, T.nE, rfl, 32, rfl, _, rfl, ?_⟩
    dsimp only [tNoPart]
    refine ⟨er, _, rfl, .inl (.inl l1), fun p hp => ?_⟩
    have hpe : p ≠ er := fun z => by rw [z, upd_same] at hp; cases hp
    have hpl : p ≠ ln := fun z => by rw [z, o1] at hp; cases hp
    have hpH : H p = none := by rw [upd_ne hpe] at hp; exact hp
    rw [show (-32 : Int) = -((32 : Nat) : Int) from rfl, cutV_back _ 32 (by decide)]
    refine ⟨_, rfl, ln, CL, dx, _, rfl, (by rw [upd_ne (Ne.symm hpl)]; exact o1), T.cl, T.nE, (by show 3 < 1000; decide), ?_⟩
    refine ⟨_, rfl, _, rfl, ln, CL, dx, _, rfl, upd_same, T.cl, T.nW, (by show 3 < 1000; decide), ?_⟩
    have kc : Chg [ln, er] H (L2.upd (L2.upd (L2.upd (L2.upd H er (.lst (xs.map V.ref ++ [.ref x0]))) p (.lst (((xs ++ [x0]).map V.ref).drop (((xs ++ [x0]).map V.ref).length - 32)))) ln (.ins CL dx (putF "earlier" (.ref p) [("now", .ref x0), ("earlier", .ref er), ("names", .ref nm)]))) ln (.ins CL dx (putF "now" (.ref x) (putF "earlier" (.ref p) [("now", .ref x0), ("earlier", .ref er), ("names", .ref nm)])))) :=
      ((k1.new hpH _).upd (by simp) _).upd (by simp) _
    have mu : Mut [ln, er] H := fun a ha => L.mut a (by simp at ha ⊢; rcases ha with h | h <;> simp [h])
    have hc : ∀ a ∈ [ln, er], a ∈ [ln, er, tl] := fun a ha => by simp at ha ⊢; rcases ha with h | h <;> simp [h]
    have hv : ∀ a ∈ [ln, p, tl], a ∈ [ln, er, tl] ∨ H a = none := fun a ha => by
      simp at ha ⊢
      rcases ha with h | h | h
      · simp [h]
      · exact .inr (by rw [h]; exact hpH)
      · simp [h]
    refine q _ p kc hpH ⟨dx, nm, .ref x, (xs ++ [x0]).drop ((xs ++ [x0]).length - 32), ns,
      { obj := upd_same.trans ?_
        now := ⟨x, rfl, hx.keeps kc mu hc hv⟩
        lst := ?_
        past := ?_
        nmE := fun z => by have := L.nms; rw [z, hpH] at this; cases this
        nmT := L.nmT
        nms := ?_
        same := fun y hy => by cases hy; rw [hm]; exact L.same n e
        erT := fun z => by obtain ⟨l, h⟩ := L.tl; rw [← z, hpH] at h; cases h
        tl := ?_ }⟩
    · congr 1
    · rw [upd_ne hpl, upd_ne hpl, upd_same, List.length_map, List.map_drop]
    · have := ((L.past.snoc hx0).keeps kc mu hc hv).drop ((xs ++ [x0]).length - 32)
      have e2 : (goOn s n m).past.reverse = (s.past.reverse ++ [n]).drop ((xs ++ [x0]).length - 32) := by
        show ((n :: s.past).take 32).reverse = _
        rw [List.reverse_take, List.reverse_cons, List.length_cons, List.length_append, lx]
        rfl
      rw [e2]
      exact this
    · have hn1 : nm ≠ p := fun z => by have := L.nms; rw [z, hpH] at this; cases this
      rw [upd_ne L.ln_nm, upd_ne L.ln_nm, upd_ne hn1, upd_ne L.nmE]
      exact L.nms
    · obtain ⟨l, h⟩ := L.tl
      have ht1 : tl ≠ p := fun z => by rw [z, hpH] at h; cases h
      exact ⟨l, by rw [upd_ne (Ne.symm L.ln_tl), upd_ne (Ne.symm L.ln_tl), upd_ne ht1, upd_ne (Ne.symm L.erT)]; exact h⟩
end
end Bd
end
section
set_option Elab.async false
set_option linter.all false
set_option maxRecDepth 100000
set_option maxHeartbeats 4000000
set_option autoImplicit false
namespace Bd
open PySem PySem.Spec PyProof.Rows L2
section
variable {P : Program} {w : World} {K : PySem.W.Frag} {mg : Str → Option Value} {base : Heap} {f : Addr} {fd : FuncData} {CS CL : Addr}
/-! ## refused_of_one -/
abbrev sRefO : Stmt := inClass (top 74) 10
def kindI (m : Bool) : Nat := if m = true then 1 else 0
/-- what is answered of the one of that number; else q -/
def One (H : Hp) (Q : VK) (s : Co01.St) (i : Nat) (m : Bool) (q : Prop) : Prop := match s.now with
  | none => Told H Q [-9]
  | some n => match n.last with
    | none => Told H Q [-4]
    | some _ => match (Co01.waits false n.left)[i]? with
      | none => Told H Q [-2]
      | some x => if x.1 ≠ kindI m then Told H Q [-3] else q
def spRefO (CS CL : Addr) : Sp := fun vs H Q _ => ∃ (ln er tl : Addr) (s : Co01.St) (i : Nat) (m : Bool), vs = [.ref ln, .int i, .bl m] ∧ LnAt CS CL H ln er tl s ∧ (∀ n, s.now = some n → (Mx.post n.left).length ≤ 900) ∧
  One H Q s i m (∀ H', Same H H' → Q .non H')
theorem scRefO : FnScope ["self", "number", "is_may", "refused"] ["self", "number", "is_may"] (defScope sRefO) := ⟨rfl, rfl, rfl, by decide +kernel, rfl, by decide +kernel, by decide +kernel⟩
theorem ok_refO {f1 f2 f3 f4 f5 : Addr} {fd1 fd2 fd3 fd4 fd5 : FuncData} (F : L2.Fun K "refused_of_one" "Line.refused_of_one" sRefO f fd) (T : LineTxt K CL) (TS : StdTxt K CS) (g2 : IntG mg "NONE_WAITS_THERE" 2) (g3 : IntG mg "NOT_OF_THAT_KIND" 3) (gL : mg "len" = none)
    (F1 : FnP K "refusal" sRefusal f1 fd1) (m1 : mg "refusal" = some (.ref f1)) (G1 : FnOk P w K mg base CX0 1 f1 fd1 ["number"] spRefusal)
    (F2 : FnP K "waiting_in" sWaitIn f2 fd2) (m2 : mg "waiting_in" = some (.ref f2)) (G2 : FnOk P w K mg base CX0 3 f2 fd2 ["agreement"] spWaitIn)
    (F3 : FnP K "may_at" sMayAt f3 fd3) (m3 : mg "may_at" = some (.ref f3)) (G3 : FnOk P w K mg base CX0 1 f3 fd3 ["agreement", "place"] spMayAt)
    (F4 : L2.Fun K "refused_within_a_day" "Line.refused_within_a_day" sRefW f4 fd4) (m4 : Meth K CL "refused_within_a_day" f4) (G4 : FnOk P w K mg base CX0 2 f4 fd4 ["self"] (spRefW CS CL))
    (F5 : L2.Fun K "place_of" "Line.place_of" sPlaceOf f5 fd5) (m5 : Meth K CL "place_of" f5) (G5 : FnOk P w K mg base CX0 4 f5 fd5 ["self", "number"] (spPlaceOf CS CL)) :
    FnOk P w K mg base CX0 5 f fd ["self", "number", "is_may"] (spRefO CS CL) := by
  have b1 : Binds K fd1 ["number"] [] := F1.binds fun _ _ _ _ _ _ us hl => match us, hl with | [_], _ => rfl
  have b2 : Binds K fd2 ["agreement"] [] := F2.binds fun _ _ _ _ _ _ us hl => match us, hl with | [_], _ => rfl
  have b3 : Binds K fd3 ["agreement", "place"] [] := F3.binds fun _ _ _ _ _ _ us hl => match us, hl with | [_, _], _ => rfl
  have b4 : Binds K fd4 ["self"] [] := F4.binds fun _ _ _ _ _ _ us hl => match us, hl with | [_], _ => rfl
  have b5 : Binds K fd5 ["self", "number"] [] := F5.binds fun _ _ _ _ _ _ us hl => match us, hl with | [_, _], _ => rfl
  refine F.ok scRefO (fun vs H Q E h => ?_) (fun cdv A outer s H vs Q E hr h => ⟨_, (pss_cons (ps_set (i := 3) scRefO.nd rfl (.inl rfl) (pe_meth0 (pv 0) T.cl m4 (G4.mono (by decide)) hr b4 .nil pass0))
    (pss_cons (ps_if (pt_cmpR op_notN (pv 3) pe_non (nomark _)) (pss_one (ps_ret (pv 3))) pss_nil)
    (pss_cons (ps_if (pt_cmpR op_ge (pv 1) (pe_callB call_len_seq rfl gL PySem.boot_len (pa_cons (pe_call (G2.mono (by decide)) hr rfl m2 F2.kp b2 .nil pass0 (pa_cons (pe_fld (pe_fld (pv 0) rfl) rfl) pa_nil)) pa_nil)) (nomark _)) (pss_one (ps_ret (pe_call (G1.mono (by decide)) hr rfl m1 F1.kp b1 .nil pass0 (pa_cons (pe_gint g2) pa_nil)))) pss_nil)
    (pss_cons (ps_if (pt_cmpR op_ne (pe_call (G3.mono (by decide)) hr rfl m3 F3.kp b3 .nil pass0 (pa_cons (pe_fld (pe_fld (pv 0) rfl) rfl) (pa_cons (pe_meth (pv 0) T.cl m5 G5 hr b5 .nil pass0 (pa_cons (pv 1) pa_nil)) pa_nil))) (pv 2) (nomark _)) (pss_one (ps_ret (pe_call (G1.mono (by decide)) hr rfl m1 F1.kp b1 .nil pass0 (pa_cons (pe_gint g3) pa_nil)))) pss_nil)
    (pss_one (ps_ret pe_non)))))), ?_⟩)
  · obtain ⟨ln, er, tl, s, i, m, rfl, _⟩ := h
    rfl
  · obtain ⟨ln, er, tl, s, i, m, rfl, L0, len, q⟩ := h
    obtain ⟨dx, nm, nw, xs, ns, L⟩ := id L0
    have hn := L.now
    refine ⟨_, rfl, ln, dx, _, rfl, L.obj, rfl, ln, er, tl, s, rfl, L0, ?_⟩
    unfold One at q
    cases e : s.now with
    | none =>
      rw [e] at q
      exact fun H1 r k hr1 an => ⟨_, rfl, rfl, _, rfl, _, rfl, q H1 r k hr1 an⟩
    | some n =>
      rw [e] at q hn
      have len := len n e
      dsimp only at q
      dsimp only
      cases e2 : n.last with
      | none =>
        rw [e2] at q
        exact fun H1 r k hr1 an => ⟨_, rfl, rfl, _, rfl, _, rfl, q H1 r k hr1 an⟩
      | some v =>
        rw [e2] at q
        dsimp only at q
        dsimp only
        obtain ⟨x, rfl, sx, ag, pm, sv, h1, h2, h3, _⟩ := hn
        refine ⟨_, rfl, rfl, _, rfl, ?_⟩
        refine ⟨_, rfl, _, rfl, ln, CL, dx, _, .ref x, rfl, L.obj, T.cl, T.nW, rfl, x, CS, sx, _, .ref ag, rfl, h1, TS.cl, TS.nA, rfl, ag, n.left, rfl, h2, len, fun H1 r k hr1 wt => ?_⟩
        obtain ⟨as, hr, tu⟩ := wt
        have al : as.length = (Co01.waits false n.left).length := by rw [tu.length, List.length_map, Mx.waitsAt_len]
        refine ⟨r, as.map V.ref, rfl, .inl (.inl (.inl hr)), _, _, rfl, rfl, _, rfl, ?_⟩
        rw [List.length_map, al]
        have L1 := L.keeps k
        by_cases c : i < (Co01.waits false n.left).length
        · rw [decide_eq_false (show ¬ ((((Co01.waits false n.left).length : Nat) : Int) ≤ (i : Int)) by omega)]
          obtain ⟨⟨kd, sd⟩, hz⟩ : ∃ z, (Co01.waits false n.left)[i]? = some z := ⟨_, List.getElem?_eq_getElem c⟩
          rw [hz] at q
          dsimp only at q
          obtain ⟨p, hp⟩ := waits_kinds hz
          obtain ⟨kind, y, e3, e4, e5, e6⟩ := kind_at hp
          rw [hz] at e3
          obtain rfl : kd = kind := congrArg Prod.fst (Option.some.inj e3)
          have q : if kd ≠ kindI m then Told H Q [-3] else ∀ H', Same H H' → Q V.non H' := q
          have h11 := k _ _ h1
          refine ⟨_, rfl, ln, CL, dx, _, .ref x, rfl, L1.obj, T.cl, T.nW, rfl, x, CS, sx, _, .ref ag, rfl, h11, TS.cl, TS.nA, rfl, _, rfl, ln, dx, _, rfl, L1.obj, rfl, _, rfl, ln, er, tl, s, n, i, p, _, rfl, ⟨dx, nm, _, xs, ns, L1⟩, e, len, hp, fun H2 k2 => ?_⟩
          refine ⟨ag, p, Mx.post n.left, y, rfl, h2.keeps (Bd.Same.tk (k.trans k2)), e4, _, rfl, rfl, _, rfl, ?_⟩
          rw [e6]
          have k02 := k.trans k2
          rcases e5 with rfl | rfl <;> cases m
          · exact q H2 k02
          · exact ⟨3, rfl, fun H3 r3 k3 hr3 an => q H3 r3 (k02.trans k3) (k02.free hr3) an⟩
          · exact ⟨3, rfl, fun H3 r3 k3 hr3 an => q H3 r3 (k02.trans k3) (k02.free hr3) an⟩
          · exact q H2 k02
        · rw [decide_eq_true (show ((((Co01.waits false n.left).length : Nat) : Int) ≤ (i : Int)) by omega)]
          rw [List.getElem?_eq_none (by omega)] at q
          exact ⟨2, rfl, fun H2 r2 k2 hr2 an => q H2 r2 (k.trans k2) (k.free hr2) an⟩
end
end Bd
end
section
set_option Elab.async false
set_option linter.all false
set_option maxRecDepth 100000
set_option maxHeartbeats 4000000
set_option autoImplicit false
namespace Bd
open PySem PySem.Spec PyProof.Rows L2
theorem names_settled (n : Co01.Now) (v : Co01.Seen) (g : Co01.Ag) : (settledNow n v g).names = n.names := rfl
theorem Tups.splitR {H : Hp} : ∀ {as : List Addr} {xs ys : List (List V)}, Tups H as (xs ++ ys) → ∃ a b, as = a ++ b ∧ Tups H a xs ∧ Tups H b ys
  | as, [], ys, h => ⟨[], as, rfl, .nil, h⟩
  | _, x :: xs, ys, h => by
    cases h with
    | cons e t =>
      obtain ⟨a, b, rfl, h1, h2⟩ := Tups.splitR t
      exact ⟨_ :: a, b, rfl, .cons e h1, h2⟩
/-- a fresh standing as it is made -/
theorem std_made {C : Addr} {H' : Hp} {x dx ag pm : Addr} {sv : V} {n : Co01.Now} {av : List Addr} (h : H' x = some (.ins C dx [("agreement", .ref ag), ("next_day", .int n.next), ("seen", sv), ("payments", .ref pm)])) (ha : AgAt H' ag (Mx.post n.left)) (hs : SeenV H' sv n) (hp : PayAt H' pm n.paid)
    (nx : x ∉ av) (np : pm ∉ av) : StdAt C H' av x n := ⟨dx, ag, pm, sv, h, ha, hs, hp, nx, np⟩
theorem LineAt.old {CS CL : Addr} {H : Hp} {ln er tl dx nm : Addr} {s : Co01.St} {nw : V} {xs : List Addr} {ns : List Co01.Bytes} (h : LineAt CS CL H ln er tl s dx nm nw xs ns) {b : Addr} (hb : H b = none) : b ∉ [ln, er, tl] := fun q => by
  rcases h.mut b q with ⟨l, e⟩ | ⟨_, _, _, e⟩ <;> (rw [hb] at e; cases e)
section
variable {P : Program} {w : World} {K : PySem.W.Frag} {mg : Str → Option Value} {base : Heap} {f : Addr} {fd : FuncData} {CS CL : Addr}
/-! ## settle -/
abbrev sSettle : Stmt := inClass (top 74) 12
def spSettle (CS CL : Addr) : Sp := fun vs H Q _ => ∃ (ln er tl ag : Addr) (s : Co01.St) (n : Co01.Now) (v : Co01.Seen) (g : Co01.Ag) (k : Nat), vs = [.ref ln, .ref ag] ∧ LnAt CS CL H ln er tl s ∧ s.now = some n ∧ n.last = some v ∧ NowOk k n ∧ k ≤ 100 ∧ s.past.length ≤ 32 ∧
  AgAt H ag (Mx.post g) ∧ GOk n.names g ∧
  ∀ (H' : Hp) (er' r : Addr), Chg [ln, er] H H' → H er' = none → LnAt CS CL H' ln er' tl (goOn s n (settledNow n v g)) → H r = none → AnsAt H' r [0, (Co01.run (n.next - 1) v g).2] → Q (.ref r) H'
theorem scSettle : FnScope ["self", "agreement", "now", "day", "paid_before", "left", "paid", "payments"] ["self", "agreement"] (defScope sSettle) := ⟨rfl, rfl, rfl, by decide +kernel, rfl, by decide +kernel, by decide +kernel⟩
theorem ok_settle {C fI f1 f2 : Addr} {fdI fd1 fd2 : FuncData} (F : L2.Fun K "settle" "Line.settle" sSettle f fd) (T : LineTxt K CL) (TS : StdTxt K CS)
    (gC : mg "Standing" = some (.ref CS)) (M : Mk K CS fI) (FI : L2.Fun K "__init__" "Standing.__init__" sStdI fI fdI) (GI : FnOk P w K mg base CX0 1 fI fdI ["self", "agreement", "next_day", "seen", "payments"] (spStdI CS))
    (F1 : FnP K "gone_through" sGone f1 fd1) (m1 : mg "gone_through" = some (.ref f1)) (G1 : FnOk P w K mg base CX0 5 f1 fd1 ["agreement", "day", "seen"] (spGone C))
    (F2 : L2.Fun K "move_on" "Line.move_on" sMoveOn f2 fd2) (m2 : Meth K CL "move_on" f2) (G2 : FnOk P w K mg base CX0 1 f2 fd2 ["self", "standing"] (spMoveOn CS CL)) :
    FnOk P w K mg base CX0 6 f fd ["self", "agreement"] (spSettle CS CL) := by
  have bI : Binds K fdI ["self", "agreement", "next_day", "seen", "payments"] [] := FI.binds fun _ _ _ _ _ _ us hl => match us, hl with | [_, _, _, _, _], _ => rfl
  have b1 : Binds K fd1 ["agreement", "day", "seen"] [] := F1.binds fun _ _ _ _ _ _ us hl => match us, hl with | [_, _, _], _ => rfl
  have b2 : Binds K fd2 ["self", "standing"] [] := F2.binds fun _ _ _ _ _ _ us hl => match us, hl with | [_, _], _ => rfl
  refine F.ok scSettle (fun vs H Q E h => ?_) (fun cdv A outer s H vs Q E hr h => ⟨_, (pss_cons (ps_set (i := 2) scSettle.nd rfl (.inl rfl) (pe_fld (pv 0) rfl))
    (pss_cons (ps_asg (pe_ix ix_list (pe_fld (pv 2) rfl) (pe_un un_neg pe_int) (fun _ _ => rfl)) (pg_tup rfl (pgs_cons (pg_name (i := 3) scSettle.nd rfl (.inl rfl)) (pgs_cons (pg_name (i := 4) scSettle.nd rfl (.inl rfl)) pgs_nil))))
    (pss_cons (ps_asg (pe_call G1 hr rfl m1 F1.kp b1 .nil pass0 (pa_cons (pv 1) (pa_cons (pv 3) (pa_cons (pe_fld (pv 2) rfl) pa_nil)))) (pg_tup rfl (pgs_cons (pg_name (i := 5) scSettle.nd rfl (.inl rfl)) (pgs_cons (pg_name (i := 6) scSettle.nd rfl (.inl rfl)) pgs_nil))))
    (pss_cons (ps_set (i := 7) scSettle.nd rfl (.inl rfl) (pe_op op_cat (pe_slice sl_list (pe_fld (pv 2) rfl) po_none (po_some (pe_un un_neg pe_int))) (pe_lst (pa_cons (pe_tup (pa_cons (pv 3) (pa_cons (pe_op op_add (pv 4) (pv 6)) pa_nil))) pa_nil))))
    (pss_cons (ps_expr (pe_meth (pv 0) T.cl m2 (G2.mono (by decide)) hr b2 .nil pass0 (pa_cons (pe_make M (GI.mono (by decide)) hr rfl gC bI .nil pass0 (pa_cons (pv 5) (pa_cons (pe_fld (pv 2) rfl) (pa_cons (pe_fld (pv 2) rfl) (pa_cons (pv 7) pa_nil))))) pa_nil)))
    (pss_one (ps_ret (pe_lst (pa_cons pe_int (pa_cons (pv 6) pa_nil)))))))))), ?_⟩)
  · obtain ⟨ln, er, tl, ag, s, n, v, g, k, rfl, _⟩ := h
    rfl
  · obtain ⟨ln, er, tl, ag, s, n, v, g, k, rfl, ⟨dx, nm, nw, xs, ns, L⟩, e, el, nk, hk, hp, ha, hg, q⟩ := h
    have hn := L.now
    rw [e] at hn
    obtain ⟨x, rfl, sx, ag0, pm, sv, h1, h2, h3, ⟨as, h4, h5⟩, nx, np⟩ := hn
    obtain ⟨sm, n1, st, z, l, ep⟩ := nk.begun v el
    unfold SeenV at h3
    rw [el] at h3
    obtain ⟨d, rfl, hd⟩ := h3
    rw [ep, List.reverse_cons, List.map_append] at h5
    obtain ⟨as0, as1, rfl, t0, t1⟩ := h5.splitR
    cases t1 with
    | cons ea tn =>
    cases tn
    rename_i a1
    rw [List.map_append] at h4
    refine ⟨_, rfl, ln, CL, dx, _, .ref x, rfl, L.obj, T.cl, T.nW, rfl, ?_⟩
    refine ⟨_, rfl, x, CS, sx, _, .ref pm, rfl, h1, TS.cl, TS.nP, rfl, 1, rfl, pm, _, _, .ref a1, rfl, rfl, .inl (.inl h4), atI_last _ _, ?_⟩
    refine ⟨a1, _, rfl, .inl (.inl ea), rfl, _, _, rfl, _, _, rfl, rfl, ?_⟩
    refine ⟨_, rfl, _, rfl, _, rfl, x, CS, sx, _, .ref d, rfl, h1, TS.cl, TS.nS, rfl, ag, d, n.next - 1, v, n.names, g, rfl, ha, hd, sm, hg, fun H1 r k1 pr => ?_⟩
    obtain ⟨lf, hr1, agl⟩ := pr
    refine ⟨r, _, rfl, .inl (.inl hr1), rfl, _, _, rfl, _, _, rfl, rfl, ?_⟩
    have h11 := k1 _ _ h1
    have h41 := k1 _ _ h4
    refine ⟨_, rfl, x, CS, sx, _, .ref pm, rfl, h11, TS.cl, TS.nP, rfl, ?_⟩
    dsimp only [tNoPart]
    refine ⟨1, rfl, _, rfl, pm, _, rfl, .inl (.inl h41), fun p hpn => ?_⟩
    have ed : (as0.map V.ref ++ [V.ref a1]).dropLast = as0.map V.ref := by simp
    rw [cutV_front, show (as0.map V.ref ++ [a1].map V.ref) = as0.map V.ref ++ [V.ref a1] from rfl, ed]
    have k2 : Same H (L2.upd H1 p (.lst (as0.map V.ref))) := same_new k1 hpn _
    refine ⟨_, rfl, _, rfl, _, rfl, _, _, rfl, rfl, (by show 2 ≤ sizeLine; decide), fun t ht => ⟨(by show 1 ≤ sizeLine; decide), fun b hb => ?_⟩⟩
    have k3 := same_new k2 ht (.tup [.int ((n.next - 1 : Nat) : Int), .int (z + (Co01.run (n.next - 1) v g).2)])
    have k4 := same_new k3 hb (.lst [.ref t])
    have hpt : p ≠ t := fun q => by rw [← q, upd_same] at ht; cases ht
    have hpb : p ≠ b := fun q => by rw [← q, upd_ne hpt, upd_same] at hb; cases hb
    have htb : t ≠ b := fun q => by rw [← q, upd_same] at hb; cases hb
    have lp := nk.pk
    rw [ep, List.length_cons] at lp
    have la : as0.length = l.length := by rw [t0.length, List.length_map, List.length_reverse]
    refine ⟨p, b, as0.map V.ref, [.ref t], rfl, rfl, by rw [upd_ne hpb, upd_ne hpt]; exact upd_same, upd_same, ?_, fun p2 hp2 => ?_⟩
    · rw [List.length_map]; exact Nat.le_of_lt (small1000 (by simp; omega))
    have k5 := same_new k4 hp2 (.lst (as0.map V.ref ++ [.ref t]))
    have ht5 : (L2.upd (L2.upd (L2.upd (L2.upd H1 p (.lst (as0.map V.ref))) t (.tup [.int ((n.next - 1 : Nat) : Int), .int (z + (Co01.run (n.next - 1) v g).2)])) b (.lst [.ref t])) p2 (.lst (as0.map V.ref ++ [.ref t]))) t = some (.tup [.int ((n.next - 1 : Nat) : Int), .int (z + (Co01.run (n.next - 1) v g).2)]) := by
      have e1 : t ≠ p2 := fun q => by rw [← q, upd_ne htb, upd_same] at hp2; cases hp2
      rw [upd_ne e1, upd_ne htb, upd_same]
    have hl5 := k5 _ _ L.obj
    have h15 := k5 _ _ h1
    refine ⟨_, rfl, ln, dx, _, rfl, hl5, rfl, _, rfl, _, rfl, x, CS, sx, _, _, rfl, h15, TS.cl, TS.nD, rfl, _, rfl, x, CS, sx, _, _, rfl, h15, TS.cl, TS.nS, rfl, _, rfl, fun o dxo ho hdx ne => ?_⟩
    refine ⟨o, dxo, lf, p2, (n.next : Int), .ref d, rfl, upd_same, fun H6 oo b6 => ⟨rfl, ?_⟩⟩
    have oH5 := ho
    have k56 := made_same ho hdx b6
    have k6 := k5.trans k56
    have pH : H p2 = none := k4.free hp2
    have oH : H o = none := k5.free ho
    have L6 := L.keeps k6
    refine ⟨ln, er, tl, o, s, n, settledNow n v g, rfl, ⟨dx, nm, _, xs, ns, L6⟩, e, hp, std_made (n := settledNow n v g) oo ?_ ?_ ⟨as0 ++ [t], ?_, ?_⟩ (L.old oH) (L.old pH), rfl, fun H7 er' kc her hL => ?_⟩
    · exact agl.keeps (Bd.Same.tk (Same.trans (same_new (same_new (same_new (same_new (Same.refl H1) hpn _) ht _) hb _) hp2 _) k56))
    · show SeenV H6 (.ref d) (settledNow n v g)
      unfold SeenV
      show match n.last with | none => _ | some v' => ∃ d', V.ref d = .ref d' ∧ SeenAt H6 d' v' n.names
      rw [el]
      exact ⟨d, rfl, hd.keeps k6⟩
    · rw [List.map_append]
      exact k56 _ _ upd_same
    · show Tups H6 (as0 ++ [t]) ((match n.paid with | (d, z) :: l => (d, z + (Co01.run (n.next - 1) v g).2) :: l | [] => []).reverse.map payT)
      rw [ep]
      show Tups H6 (as0 ++ [t]) (((n.next - 1, z + (Co01.run (n.next - 1) v g).2) :: l).reverse.map payT)
      rw [List.reverse_cons, List.map_append]
      exact (t0.keeps (Bd.Same.tk k6)).app (.cons (k56 _ _ ht5) .nil)
    · have kH7 : Chg [ln, er] H H7 := (Bd.Same.chg k6 _).trans kc
      refine ⟨_, rfl, (by show 2 ≤ sizeLine; decide), fun rr hrr => ?_⟩
      have e7 : Same H7 (L2.upd H7 rr (.lst [.int 0, .int (Co01.run (n.next - 1) v g).2])) := same_new (Same.refl H7) hrr _
      refine q _ er' rr (kH7.trans (Bd.Same.chg e7 _)) (k6.free her) (hL.keeps e7) (kH7.1 _ hrr) upd_same
end
end Bd
end
section
set_option Elab.async false
set_option linter.all false
set_option maxRecDepth 100000
set_option maxHeartbeats 4000000
set_option autoImplicit false
namespace Bd
open PySem PySem.Spec PyProof.Rows L2
/-- what a call leaves and answers -/
def After (CS CL ln er tl : Addr) (H : Hp) (Q : VK) (r : Co01.St × Co01.Ans) : Prop := ∀ (H' : Hp) (er' a : Addr), Chg [ln, er] H H' → (er' = er ∨ H er' = none) → LnAt CS CL H' ln er' tl r.1 → H a = none → AnsAt H' a r.2 → Q (.ref a) H'
theorem After.told {CS CL ln er tl : Addr} {H : Hp} {Q : VK} {s : Co01.St} {l : List Int} (q : After CS CL ln er tl H Q (s, l)) (L : LnAt CS CL H ln er tl s) : Told H Q l := fun H' r k hr an => q H' er r (Bd.Same.chg k _) (.inl rfl) (L.keeps k) hr an
section
variable {P : Program} {w : World} {K : PySem.W.Frag} {mg : Str → Option Value} {base : Heap} {f : Addr} {fd : FuncData} {CS CL : Addr}
/-! ## undo -/
abbrev sUndo : Stmt := inClass (top 74) 8
def spUndo (CS CL : Addr) : Sp := fun vs H Q _ => ∃ (ln er tl : Addr) (s : Co01.St) (k : Nat), vs = [.ref ln] ∧ LnAt CS CL H ln er tl s ∧ StOk k s ∧ After CS CL ln er tl H Q (Co01.step s .undo)
theorem scUndo : FnScope ["self"] ["self"] (defScope sUndo) := ⟨rfl, rfl, rfl, by decide +kernel, rfl, by decide +kernel, by decide +kernel⟩
theorem ok_undo {f1 : Addr} {fd1 : FuncData} (F : L2.Fun K "undo" "Line.undo" sUndo f fd) (T : LineTxt K CL) (g7 : IntG mg "NOTHING_TO_TAKE_BACK" 7) (gL : mg "len" = none)
    (F1 : FnP K "refusal" sRefusal f1 fd1) (m1 : mg "refusal" = some (.ref f1)) (G1 : FnOk P w K mg base CX0 1 f1 fd1 ["number"] spRefusal) :
    FnOk P w K mg base CX0 2 f fd ["self"] (spUndo CS CL) := by
  have b1 : Binds K fd1 ["number"] [] := F1.binds fun _ _ _ _ _ _ us hl => match us, hl with | [_], _ => rfl
  refine F.ok scUndo (fun vs H Q E h => ?_) (fun cdv A outer s H vs Q E hr h => ⟨_, (pss_cons (ps_if (pt_cmpR op_eq (pe_callB call_len_seq rfl gL PySem.boot_len (pa_cons (pe_fld (pv 0) rfl) pa_nil)) pe_int (nomark _)) (pss_one (ps_ret (pe_call G1 hr rfl m1 F1.kp b1 .nil pass0 (pa_cons (pe_gint g7) pa_nil)))) pss_nil)
    (pss_cons (ps_fld (pv 0) (pe_bm0 PySem.F.plainAttrs_list PySem.F.slot_list_pop PySem.F.type_list_pop mt_pop (pe_fld (pv 0) rfl)) rfl)
    (pss_one (ps_ret (pe_lst (pa_cons (pe_callB call_len_seq rfl gL PySem.boot_len (pa_cons (pe_fld (pv 0) rfl) pa_nil)) pa_nil)))))), ?_⟩)
  · obtain ⟨ln, er, tl, s, k, rfl, _⟩ := h
    rfl
  · obtain ⟨ln, er, tl, s, k, rfl, L0, ok, q⟩ := h
    obtain ⟨dx, nm, nw, xs, ns, L⟩ := id L0
    have lx : xs.length = s.past.length := by have := L.past.1; rw [List.length_reverse] at this; exact this
    have l32 := ok.len
    refine ⟨_, rfl, ln, CL, dx, _, .ref er, rfl, L.obj, T.cl, T.nE, rfl, er, xs.map V.ref, rfl, .inl (.inl (.inl L.lst)), rfl, _, rfl, ?_⟩
    rw [List.length_map, lx]
    cases ep : s.past with
    | nil =>
      have e1 : Co01.step s .undo = (s, [-7]) := by show (match s.past with | [] => (s, [-7]) | n :: l => _) = _; rw [ep]
      rw [e1] at q
      exact ⟨7, rfl, q.told L0⟩
    | cons n l =>
      have e1 : Co01.step s .undo = (⟨some n, l⟩, [(l.length : Int)]) := by show (match s.past with | [] => (s, [-7]) | n :: l => _) = _; rw [ep]
      rw [e1] at q
      rw [decide_eq_false (show ¬ V.int (((n :: l).length : Nat) : Int) = V.int 0 from fun h => by have := V.int.inj h; rw [List.length_cons] at this; omega)]
      have hp := L.past
      rw [ep, List.reverse_cons] at hp
      rw [ep] at lx
      obtain ⟨ys, y, rfl⟩ : ∃ ys y, xs = ys ++ [y] := by
        exact ⟨xs.dropLast, xs.getLast (by intro h; rw [h] at lx; simp at lx), (List.dropLast_concat_getLast _).symm⟩
      have ly : ys.length = l.length := by simp at lx; exact lx
      have hpy : StdAt CS H [ln, er, tl] y n := hp.2 ys.length y n (by simp) (by rw [ly]; simp)
      have hps : Stds CS H [ln, er, tl] ys l.reverse := by
        have := hp.front
        simpa using this
      have elst := L.lst
      rw [List.map_append] at elst
      refine ⟨_, rfl, ln, CL, dx, _, .ref er, rfl, L.obj, T.cl, T.nE, rfl, .inl ⟨rfl, _, .inl (.inl L.lst)⟩, er, _, .ref y, rfl, rfl, elst, (by simp), ?_⟩
      have ed : (ys.map V.ref ++ [y].map V.ref).dropLast = ys.map V.ref := by simp
      rw [ed]
      have o1 : L2.upd H er (.lst (ys.map V.ref)) ln = some (.ins CL dx [("now", nw), ("earlier", .ref er), ("names", .ref nm)]) := by rw [upd_ne L.ln_er]; exact L.obj
      refine ⟨_, rfl, ln, CL, dx, _, rfl, o1, T.cl, T.nW, (by show 3 < 1000; decide), ?_⟩
      refine ⟨_, rfl, ln, CL, dx, _, .ref er, rfl, upd_same, T.cl, T.nE, rfl, er, ys.map V.ref, rfl, .inl (.inl (.inl (by rw [upd_ne (Ne.symm L.ln_er)]; exact upd_same))), (by show 1 ≤ sizeLine; decide), fun r hr1 => ?_⟩
      rw [List.length_map, ly]
      have kc : Chg [ln, er] H (L2.upd (L2.upd H er (.lst (ys.map V.ref))) ln (.ins CL dx (putF "now" (.ref y) [("now", nw), ("earlier", .ref er), ("names", .ref nm)]))) := ((Chg.refl _ _).upd (by simp) _).upd (by simp) _
      have hrH := kc.1 _ hr1
      have mu : Mut [ln, er] H := fun a ha => L.mut a (by simp at ha ⊢; rcases ha with h | h <;> simp [h])
      have hc : ∀ a ∈ [ln, er], a ∈ [ln, er, tl] := fun a ha => by simp at ha ⊢; rcases ha with h | h <;> simp [h]
      have kr := kc.new hrH (.lst [.int (l.length : Int)])
      have old := L.old hrH
      refine q _ er r kr (.inl rfl) ⟨dx, nm, .ref y, ys, ns,
        { obj := ?_
          now := ⟨y, rfl, hpy.keeps kr mu hc fun _ h => .inl h⟩
          lst := ?_
          past := hps.keeps kr mu hc fun _ h => .inl h
          nmE := L.nmE
          nmT := L.nmT
          nms := kr.2 _ _ L.nms (by simp [L.ln_nm, L.nmE])
          same := fun m hm => ?_
          erT := L.erT
          tl := ?_ }⟩ hrH upd_same
      · rw [upd_ne (fun z => old (by simp [z])), upd_same]; congr 1
      · rw [upd_ne (fun z => old (by simp [z])), upd_ne (Ne.symm L.ln_er), upd_same]
      · cases hm
        cases eo : s.now with
        | none => have := ok.none eo; rw [ep] at this; cases this
        | some c => rw [ok.names c eo n (by rw [ep]; simp)]; exact L.same c eo
      · obtain ⟨t, ht⟩ := L.tl
        exact ⟨t, kr.2 _ _ ht (by simp [Ne.symm L.ln_tl, Ne.symm L.erT])⟩
/-! ## tell_left -/
abbrev sLeft : Stmt := inClass (top 74) 6
def spLeft (CS CL : Addr) : Sp := fun vs H Q _ => ∃ (ln er tl : Addr) (s : Co01.St) (k : Nat), vs = [.ref ln] ∧ LnAt CS CL H ln er tl s ∧ StOk k s ∧ After CS CL ln er tl H Q (Co01.step s .left)
theorem scLeft : FnScope ["self"] ["self"] (defScope sLeft) := ⟨rfl, rfl, rfl, by decide +kernel, rfl, by decide +kernel, by decide +kernel⟩
theorem ok_left {f1 f2 f3 : Addr} {fd1 fd2 fd3 : FuncData} (F : L2.Fun K "tell_left" "Line.tell_left" sLeft f fd) (T : LineTxt K CL) (TS : StdTxt K CS) (g9 : IntG mg "NO_AGREEMENT" 9)
    (F1 : FnP K "refusal" sRefusal f1 fd1) (m1 : mg "refusal" = some (.ref f1)) (G1 : FnOk P w K mg base CX0 1 f1 fd1 ["number"] spRefusal)
    (F2 : FnP K "text_told" sTold f2 fd2) (m2 : mg "text_told" = some (.ref f2)) (G2 : FnOk P w K mg base CX0 1 f2 fd2 ["text"] spTold)
    (F3 : FnP K "written" sWritten f3 fd3) (m3 : mg "written" = some (.ref f3)) (G3 : FnOk P w K mg base CX0 7 f3 fd3 ["steps"] (spWr Wr2)) :
    FnOk P w K mg base CX0 8 f fd ["self"] (spLeft CS CL) := by
  have b1 : Binds K fd1 ["number"] [] := F1.binds fun _ _ _ _ _ _ us hl => match us, hl with | [_], _ => rfl
  have b2 : Binds K fd2 ["text"] [] := F2.binds fun _ _ _ _ _ _ us hl => match us, hl with | [_], _ => rfl
  have b3 : Binds K fd3 ["steps"] [] := F3.binds fun _ _ _ _ _ _ us hl => match us, hl with | [_], _ => rfl
  refine F.ok scLeft (fun vs H Q E h => ?_) (fun cdv A outer s H vs Q E hr h => ⟨_, (pss_cons (ps_if (pt_cmpR op_isN (pe_fld (pv 0) rfl) pe_non (nomark _)) (pss_one (ps_ret (pe_call (G1.mono (by decide)) hr rfl m1 F1.kp b1 .nil pass0 (pa_cons (pe_gint g9) pa_nil)))) pss_nil)
    (pss_one (ps_ret (pe_call (G2.mono (by decide)) hr rfl m2 F2.kp b2 .nil pass0 (pa_cons (pe_call G3 hr rfl m3 F3.kp b3 .nil pass0 (pa_cons (pe_fld (pe_fld (pv 0) rfl) rfl) pa_nil)) pa_nil))))), ?_⟩)
  · obtain ⟨ln, er, tl, s, k, rfl, _⟩ := h
    rfl
  · obtain ⟨ln, er, tl, s, k, rfl, L0, ok, q⟩ := h
    obtain ⟨dx, nm, nw, xs, ns, L⟩ := id L0
    have hn := L.now
    refine ⟨_, rfl, ln, CL, dx, _, nw, rfl, L.obj, T.cl, T.nW, rfl, ?_⟩
    have q := q.told L0
    cases e : s.now with
    | none =>
      rw [e] at hn q
      obtain rfl : nw = .non := hn
      exact ⟨rfl, _, rfl, 9, rfl, q⟩
    | some n =>
      rw [e] at hn q
      obtain ⟨x, rfl, sx, ag, pm, sv, h1, h2, h3, _⟩ := hn
      have go := (ok.now n e).gok
      refine ⟨rfl, _, rfl, ?_⟩
      refine ⟨_, rfl, ln, CL, dx, _, .ref x, rfl, L.obj, T.cl, T.nW, rfl, x, CS, sx, _, .ref ag, rfl, h1, TS.cl, TS.nA, rfl, ag, Co01.text 0 n.left, rfl, wr_ag h2 go, fun H1 k1 => ?_⟩
      have := ag_len go
      exact ⟨_, rfl, by omega, fun H2 r k2 hr2 an => q H2 r (k1.trans k2) (k1.free hr2) an⟩
end
end Bd
end
section
set_option Elab.async false
set_option linter.all false
set_option maxRecDepth 100000
set_option maxHeartbeats 4000000
set_option autoImplicit false
namespace Bd
open PySem PySem.Spec PyProof.Rows L2
section
variable {P : Program} {w : World} {K : PySem.W.Frag} {mg : Str → Option Value} {base : Heap} {f : Addr} {fd : FuncData} {CS CL : Addr}
/-! ## tell_paid -/
abbrev sPaid : Stmt := inClass (top 74) 7
def spPaid (CS CL : Addr) : Sp := fun vs H Q _ => ∃ (ln er tl : Addr) (s : Co01.St) (k : Nat), vs = [.ref ln] ∧ LnAt CS CL H ln er tl s ∧ StOk k s ∧ k ≤ 100 ∧ After CS CL ln er tl H Q (Co01.step s .paid)
theorem scPaid : FnScope ["self", "answer", "day", "paid"] ["self"] (defScope sPaid) := ⟨rfl, rfl, rfl, by decide +kernel, rfl, by decide +kernel, by decide +kernel⟩
def payL (x : Nat × Int) : List Int := [(x.1 : Int), x.2]
theorem payL_len (l : List (Nat × Int)) : (l.flatMap payL).length = 2 * l.length := by
  induction l with
  | nil => rfl
  | cons x l ih => rw [List.flatMap_cons, List.length_append, ih, List.length_cons]; show 2 + _ = _; omega
theorem ok_paid {f1 : Addr} {fd1 : FuncData} (F : L2.Fun K "tell_paid" "Line.tell_paid" sPaid f fd) (T : LineTxt K CL) (TS : StdTxt K CS) (g9 : IntG mg "NO_AGREEMENT" 9) (gL : mg "len" = none)
    (F1 : FnP K "refusal" sRefusal f1 fd1) (m1 : mg "refusal" = some (.ref f1)) (G1 : FnOk P w K mg base CX0 1 f1 fd1 ["number"] spRefusal) :
    FnOk P w K mg base CX0 2 f fd ["self"] (spPaid CS CL) := by
  have b1 : Binds K fd1 ["number"] [] := F1.binds fun _ _ _ _ _ _ us hl => match us, hl with | [_], _ => rfl
  refine F.ok scPaid (fun vs H Q E h => ?_) (fun cdv A outer s H vs Q E hr h => ⟨_, (pss_cons (ps_if (pt_cmpR op_isN (pe_fld (pv 0) rfl) pe_non (nomark _)) (pss_one (ps_ret (pe_call G1 hr rfl m1 F1.kp b1 .nil pass0 (pa_cons (pe_gint g9) pa_nil)))) pss_nil)
    (pss_cons (ps_set (i := 1) scPaid.nd rfl (.inl rfl) (pe_lst (pa_cons (pe_callB call_len_seq rfl gL PySem.boot_len (pa_cons (pe_fld (pe_fld (pv 0) rfl) rfl) pa_nil)) pa_nil)))
    (pss_cons (ps_for PassesOwn.never rfl (pi_list (pe_fld (pe_fld (pv 0) rfl) rfl)) (pg_tup rfl (pgs_cons (pg_name (i := 2) scPaid.nd rfl (.inl rfl)) (pgs_cons (pg_name (i := 3) scPaid.nd rfl (.inl rfl)) pgs_nil)))
      (pss_one (ps_expr (pe_bm PySem.F.plainAttrs_list PySem.F.slot_list_extend PySem.F.type_list_extend mt_extend (pv 1) (pa_cons (pe_lst (pa_cons (pv 2) (pa_cons (pv 3) pa_nil))) pa_nil)))))
    (pss_one (ps_ret (pv 1)))))), ?_⟩)
  · obtain ⟨ln, er, tl, s, k, rfl, _⟩ := h
    rfl
  · obtain ⟨ln, er, tl, s, k, rfl, L0, ok, hk, q⟩ := h
    obtain ⟨dx, nm, nw, xs, ns, L⟩ := id L0
    have hn := L.now
    refine ⟨_, rfl, ln, CL, dx, _, nw, rfl, L.obj, T.cl, T.nW, rfl, ?_⟩
    have q := q.told L0
    cases e : s.now with
    | none =>
      rw [e] at hn q
      obtain rfl : nw = .non := hn
      exact ⟨rfl, _, rfl, 9, rfl, q⟩
    | some n =>
      rw [e] at hn q
      have q : Told H Q ((n.paid.length : Int) :: n.paid.reverse.flatMap payL) := q
      obtain ⟨x, rfl, sx, ag, pm, sv, h1, h2, h3, ⟨as, h4, h5⟩, _⟩ := hn
      have pk := (ok.now n e).pk
      have la : as.length = n.paid.length := by rw [h5.length, List.length_map, List.length_reverse]
      refine ⟨rfl, _, rfl, ?_⟩
      refine ⟨_, rfl, ln, CL, dx, _, .ref x, rfl, L.obj, T.cl, T.nW, rfl, x, CS, sx, _, .ref pm, rfl, h1, TS.cl, TS.nP, rfl, pm, as.map V.ref, rfl, .inl (.inl (.inl h4)), (by show 1 ≤ sizeLine; decide), fun l hl => ?_⟩
      rw [List.length_map, la]
      have k0 : Same H (L2.upd H l (.lst [.int (n.paid.length : Int)])) := same_new (Same.refl H) hl _
      refine ⟨_, rfl, ln, CL, dx, _, .ref x, rfl, k0 _ _ L.obj, T.cl, T.nW, rfl, x, CS, sx, _, .ref pm, rfl, k0 _ _ h1, TS.cl, TS.nP, rfl, pm, rfl, ⟨_, .inl (.inl (k0 _ _ h4))⟩,
        for_list (K := K) (a := pm) (xs := as.map V.ref) (fun i σ H1 => ∃ o2 o3 : Option V, σ = [some (.ref ln), some (.ref l), o2, o3] ∧ Same H H1 ∧ H1 l = some (.lst ((((n.paid.length : Nat) : Int) :: (n.paid.reverse.take i).flatMap payL).map V.int)) ∧ i ≤ n.paid.length)
        ⟨none, none, rfl, k0, by rw [upd_same]; rfl, Nat.zero_le _⟩ (fun i σ H1 _ h => by obtain ⟨_, _, _, k, _⟩ := h; exact .inl (.inl (k _ _ h4))) (fun i y σ H1 hi h => ?_) (fun σ H1 h => ?_)⟩
      · obtain ⟨o2, o3, rfl, k1, hl1, hi'⟩ := h
        obtain ⟨b, y', rfl, hy, hb⟩ := h5.at_ hi
        rw [List.getElem?_map] at hy
        obtain ⟨z, hz, rfl⟩ := Option.map_eq_some_iff.mp hy
        have hlt : i < n.paid.length := by have := (List.getElem?_eq_some_iff.mp hz).1; rw [List.length_reverse] at this; exact this
        refine ⟨b, _, rfl, .inl (.inl (k1 _ _ hb)), rfl, _, _, rfl, _, _, rfl, rfl, ?_⟩
        refine ⟨_, rfl, .inl ⟨rfl, _, .inl (.inl hl1)⟩, _, rfl, _, rfl, (by show 2 ≤ sizeLine; decide), fun r hr1 => ⟨l, r, ((((n.paid.length : Nat) : Int) :: (n.paid.reverse.take i).flatMap payL).map V.int), [.int (z.1 : Int), .int z.2], rfl, rfl, ?_, upd_same, ?_, some (.int (z.1 : Int)), some (.int z.2), rfl, ?_, ?_, hlt⟩⟩
        · rw [upd_ne (fun z => by rw [← z, hl1] at hr1; cases hr1)]; exact hl1
        · rw [List.length_map, List.length_cons, payL_len, List.length_take]
          exact Nat.le_of_lt (small1000 (by show _ + 1 + 2 ≤ _; omega))
        · intro c u ec
          rw [upd_ne (fun z => by rw [z, hl] at ec; cases ec)]
          exact same_new k1 hr1 _ _ _ ec
        · rw [upd_same, List.take_add_one, hz, List.flatMap_append]
          simp [payL]
      · obtain ⟨o2, o3, rfl, k1, hl1, hi'⟩ := h
        rw [List.length_map, la, ← List.length_reverse, List.take_length] at hl1
        rw [List.length_reverse] at hl1
        exact ⟨_, rfl, q H1 l k1 hl hl1⟩
/-! ## waits -/
abbrev sWaits : Stmt := inClass (top 74) 3
def spWaits (CS CL : Addr) : Sp := fun vs H Q _ => ∃ (ln er tl : Addr) (s : Co01.St) (k : Nat), vs = [.ref ln] ∧ LnAt CS CL H ln er tl s ∧ StOk k s ∧ After CS CL ln er tl H Q (Co01.step s .waits)
theorem scWaits : FnScope ["self", "refused", "waiting", "answer", "place", "side"] ["self"] (defScope sWaits) := ⟨rfl, rfl, rfl, by decide +kernel, rfl, by decide +kernel, by decide +kernel⟩
def wtL (x : Nat × Bool) : List Int := [(x.1 : Int), if x.2 = true then 1 else 0]
theorem wtL_len (l : List (Nat × Bool)) : (l.flatMap wtL).length = 2 * l.length := by
  induction l with
  | nil => rfl
  | cons x l ih => rw [List.flatMap_cons, List.length_append, ih, List.length_cons]; show 2 + _ = _; omega
theorem waits_le : ∀ (a : Co01.Ag) (o : Bool), (Co01.waits o a).length ≤ (Mx.post a).length
  | .both a b, o => by have := waits_le a o; have := waits_le b o; simp [Co01.waits, Mx.post]; omega
  | .or _ _, _ => by simp [Co01.waits, Mx.post]; omega
  | .else_ _ _, _ => by simp [Co01.waits, Mx.post]; omega
  | .may _ _, _ => by simp [Co01.waits, Mx.post]
  | .give a, o => by have := waits_le a (!o); simp [Co01.waits, Mx.post]; omega
  | .times _ a, o => by have := waits_le a o; simp [Co01.waits, Mx.post]; omega
  | .halt_ _ a, o => by have := waits_le a o; simp [Co01.waits, Mx.post]; omega
  | .nothing, _ => by simp [Co01.waits]
  | .pay _, _ => by simp [Co01.waits]
  | .at_ _ _, _ => by simp [Co01.waits]
  | .if_ _ _ _, _ => by simp [Co01.waits]
theorem ok_waits {f2 f3 f4 : Addr} {fd2 fd3 fd4 : FuncData} (F : L2.Fun K "waits" "Line.waits" sWaits f fd) (T : LineTxt K CL) (TS : StdTxt K CS) (gL : mg "len" = none)
    (F2 : FnP K "waiting_in" sWaitIn f2 fd2) (m2 : mg "waiting_in" = some (.ref f2)) (G2 : FnOk P w K mg base CX0 3 f2 fd2 ["agreement"] spWaitIn)
    (F3 : FnP K "may_at" sMayAt f3 fd3) (m3 : mg "may_at" = some (.ref f3)) (G3 : FnOk P w K mg base CX0 1 f3 fd3 ["agreement", "place"] spMayAt)
    (F4 : L2.Fun K "refused_within_a_day" "Line.refused_within_a_day" sRefW f4 fd4) (m4 : Meth K CL "refused_within_a_day" f4) (G4 : FnOk P w K mg base CX0 2 f4 fd4 ["self"] (spRefW CS CL)) :
    FnOk P w K mg base CX0 4 f fd ["self"] (spWaits CS CL) := by
  have b2 : Binds K fd2 ["agreement"] [] := F2.binds fun _ _ _ _ _ _ us hl => match us, hl with | [_], _ => rfl
  have b3 : Binds K fd3 ["agreement", "place"] [] := F3.binds fun _ _ _ _ _ _ us hl => match us, hl with | [_, _], _ => rfl
  have b4 : Binds K fd4 ["self"] [] := F4.binds fun _ _ _ _ _ _ us hl => match us, hl with | [_], _ => rfl
  refine F.ok scWaits (fun vs H Q E h => ?_) (fun cdv A outer s H vs Q E hr h => ⟨_, (pss_cons (ps_set (i := 1) scWaits.nd rfl (.inl rfl) (pe_meth0 (pv 0) T.cl m4 (G4.mono (by decide)) hr b4 .nil pass0))
    (pss_cons (ps_if (pt_cmpR op_notN (pv 1) pe_non (nomark _)) (pss_one (ps_ret (pv 1))) pss_nil)
    (pss_cons (ps_set (i := 2) scWaits.nd rfl (.inl rfl) (pe_call G2 hr rfl m2 F2.kp b2 .nil pass0 (pa_cons (pe_fld (pe_fld (pv 0) rfl) rfl) pa_nil)))
    (pss_cons (ps_set (i := 3) scWaits.nd rfl (.inl rfl) (pe_lst (pa_cons (pe_callB call_len_seq rfl gL PySem.boot_len (pa_cons (pv 2) pa_nil)) pa_nil)))
    (pss_cons (ps_for PassesOwn.never rfl (pi_list (pv 2)) (pg_tup rfl (pgs_cons (pg_name (i := 4) scWaits.nd rfl (.inl rfl)) (pgs_cons (pg_name (i := 5) scWaits.nd rfl (.inl rfl)) pgs_nil)))
      (pss_cons (ps_expr (pe_bm PySem.F.plainAttrs_list PySem.F.slot_list_append PySem.F.type_list_append mt_append (pv 3) (pa_cons (pe_ifExp (pt_val (pe_call (G3.mono (by decide)) hr rfl m3 F3.kp b3 .nil pass0 (pa_cons (pe_fld (pe_fld (pv 0) rfl) rfl) (pa_cons (pv 4) pa_nil)))) pe_int pe_int) pa_nil)))
      (pss_one (ps_expr (pe_bm PySem.F.plainAttrs_list PySem.F.slot_list_append PySem.F.type_list_append mt_append (pv 3) (pa_cons (pv 5) pa_nil))))))
    (pss_one (ps_ret (pv 3)))))))), ?_⟩)
  · obtain ⟨ln, er, tl, s, k, rfl, _⟩ := h
    rfl
  · obtain ⟨ln, er, tl, s, k, rfl, L0, ok, q⟩ := h
    obtain ⟨dx, nm, nw, xs, ns, L⟩ := id L0
    have hn := L.now
    refine ⟨_, rfl, ln, dx, _, rfl, L.obj, rfl, ln, er, tl, s, rfl, L0, ?_⟩
    have q := q.told L0
    cases e : s.now with
    | none =>
      rw [e] at q
      exact fun H1 r k hr1 an => ⟨_, rfl, rfl, _, rfl, _, rfl, q H1 r k hr1 an⟩
    | some n =>
      rw [e] at q hn
      have len := (ok.now n e).gok.len
      have wl := waits_le n.left false
      dsimp only at q
      dsimp only
      cases e2 : n.last with
      | none =>
        rw [e2] at q
        exact fun H1 r k hr1 an => ⟨_, rfl, rfl, _, rfl, _, rfl, q H1 r k hr1 an⟩
      | some v =>
        rw [e2] at q
        have q : Told H Q (((Co01.waits false n.left).length : Int) :: (Co01.waits false n.left).flatMap wtL) := q
        dsimp only
        obtain ⟨x, rfl, sx, ag, pm, sv, h1, h2, h3, _⟩ := hn
        refine ⟨_, rfl, rfl, _, rfl, ?_⟩
        refine ⟨_, rfl, ln, CL, dx, _, .ref x, rfl, L.obj, T.cl, T.nW, rfl, x, CS, sx, _, .ref ag, rfl, h1, TS.cl, TS.nA, rfl, ag, n.left, rfl, h2, by omega, fun H1 r k hr1 wt => ?_⟩
        obtain ⟨as, hr, tu⟩ := wt
        have al : as.length = (Co01.waits false n.left).length := by rw [tu.length, List.length_map, Mx.waitsAt_len]
        refine ⟨_, rfl, r, as.map V.ref, rfl, .inl (.inl (.inl hr)), (by show 1 ≤ sizeLine; decide), fun l hl => ?_⟩
        rw [List.length_map, al]
        have k1 : Same H1 (L2.upd H1 l (.lst [.int ((Co01.waits false n.left).length : Int)])) := same_new (Same.refl H1) hl _
        refine ⟨_, rfl, r, rfl, ⟨_, .inl (.inl (k1 _ _ hr))⟩, for_list (K := K) (a := r) (xs := as.map V.ref) (fun i σ H2 => ∃ o4 o5 : Option V, σ = [some (.ref ln), some .non, some (.ref r), some (.ref l), o4, o5] ∧ Same H1 H2 ∧ H2 l = some (.lst ((((Co01.waits false n.left).length : Int) :: ((Co01.waits false n.left).take i).flatMap wtL).map V.int)) ∧ i ≤ (Co01.waits false n.left).length)
          ⟨none, none, rfl, k1, by rw [upd_same]; rfl, Nat.zero_le _⟩ (fun i σ H2 _ h => by obtain ⟨_, _, _, k, _⟩ := h; exact .inl (.inl (k _ _ hr))) (fun i y σ H2 hi h => ?_) (fun σ H2 h => ?_)⟩
        · obtain ⟨o4, o5, rfl, k2, hl2, hi'⟩ := h
          obtain ⟨b, y', rfl, hy, hb⟩ := tu.at_ hi
          rw [List.getElem?_map] at hy
          obtain ⟨⟨p, sd⟩, hz, rfl⟩ := Option.map_eq_some_iff.mp hy
          obtain ⟨kind, st, e3, e4, e5, e6⟩ := kind_at hz
          have hlt : i < (Co01.waits false n.left).length := (List.getElem?_eq_some_iff.mp e3).1
          have k02 := k.trans k2
          refine ⟨b, _, rfl, .inl (.inl (k2 _ _ hb)), rfl, _, _, rfl, _, _, rfl, rfl, ?_⟩
          have tlen : (((((Co01.waits false n.left).length : Int) :: ((Co01.waits false n.left).take i).flatMap wtL).map V.int)).length ≤ 999 := by
            rw [List.length_map, List.length_cons, wtL_len, List.length_take]; omega
          refine ⟨_, rfl, .inl ⟨rfl, _, .inl (.inl hl2)⟩, _, rfl, ln, CL, dx, _, .ref x, rfl, k02 _ _ L.obj, T.cl, T.nW, rfl, x, CS, sx, _, .ref ag, rfl, k02 _ _ h1, TS.cl, TS.nA, rfl, _, rfl, ag, p, Mx.post n.left, st, rfl, h2.keeps (Bd.Same.tk k02), e4, _, rfl, ?_⟩
          rw [e6]
          have mv : ∀ (c : Int), c = (kind : Int) → tyV K "list" (.ref l) H2 := fun _ _ => .inl ⟨rfl, _, .inl (.inl hl2)⟩
          have fin : ∀ (c : Int), c = (kind : Int) → ∀ H3, H3 = L2.upd (L2.upd H2 l (.lst (((((Co01.waits false n.left).length : Int) :: ((Co01.waits false n.left).take i).flatMap wtL).map V.int) ++ [.int c]))) l (.lst ((((((Co01.waits false n.left).length : Int) :: ((Co01.waits false n.left).take i).flatMap wtL).map V.int) ++ [.int c]) ++ [sideV sd])) →
              Same H1 H3 ∧ H3 l = some (.lst ((((Co01.waits false n.left).length : Int) :: ((Co01.waits false n.left).take (i + 1)).flatMap wtL).map V.int)) := by
            rintro c rfl H3 rfl
            refine ⟨fun d u ec => ?_, ?_⟩
            · have : d ≠ l := fun z => by rw [z, hl] at ec; cases ec
              rw [upd_ne this, upd_ne this]
              exact k2 _ _ ec
            · rw [upd_same, List.take_add_one, e3, List.flatMap_append]
              cases sd <;> simp [wtL, sideV]
          rcases e5 with rfl | rfl
          · refine ⟨l, _, _, rfl, rfl, hl2, small1000 (by omega), ?_⟩
            refine ⟨_, rfl, .inl ⟨rfl, _, .inl (.inl upd_same)⟩, _, rfl, l, _, _, rfl, rfl, upd_same, small1000 (by rw [List.length_append]; simp only [List.length_singleton]; omega), ?_⟩
            obtain ⟨f1, f2⟩ := fin 0 rfl _ rfl
            exact ⟨_, _, rfl, f1, f2, hlt⟩
          · refine ⟨l, _, _, rfl, rfl, hl2, small1000 (by omega), ?_⟩
            refine ⟨_, rfl, .inl ⟨rfl, _, .inl (.inl upd_same)⟩, _, rfl, l, _, _, rfl, rfl, upd_same, small1000 (by rw [List.length_append]; simp only [List.length_singleton]; omega), ?_⟩
            obtain ⟨f1, f2⟩ := fin 1 rfl _ rfl
            exact ⟨_, _, rfl, f1, f2, hlt⟩
        · obtain ⟨o4, o5, rfl, k2, hl2, hi'⟩ := h
          rw [List.length_map, al, List.take_length] at hl2
          exact ⟨_, rfl, q H2 l (k.trans k2) (k.free hl) hl2⟩
end
end Bd
end
section
set_option Elab.async false
set_option linter.all false
set_option maxRecDepth 100000
set_option maxHeartbeats 4000000
set_option autoImplicit false
namespace Bd
open PySem PySem.Spec PyProof.Rows L2
theorem deciding_eq {k : Nat} {s : Co01.St} {n : Co01.Now} {v : Co01.Seen} {kind i : Nat} {sd : Bool} (w : Bool) (ok : NowOk k n) (e : s.now = some n) (el : n.last = some v) (hw : (Co01.waits false n.left)[i]? = some (kind, sd)) :
    Co01.deciding s kind i w = (goOn s n (settledNow n v (Mx.chosen w i n.left)), [0, (Co01.run (n.next - 1) v (Mx.chosen w i n.left)).2]) := by
  obtain ⟨_, _, st, _⟩ := ok.begun v el
  unfold Co01.deciding
  rw [e]
  dsimp only
  rw [el]
  dsimp only
  rw [hw]
  dsimp only
  rw [if_neg (fun h => h rfl), Mx.decided_run st (List.getElem?_eq_some_iff.mp hw).1, ← el]
  rfl
theorem One.imp {H : Hp} {Q Q' : VK} {s : Co01.St} {i : Nat} {m : Bool} {q q' : Prop} (h : One H Q s i m q) (h1 : ∀ l, Told H Q l → Told H Q' l) (h2 : q → q') : One H Q' s i m q' := by
  unfold One at h ⊢
  cases e : s.now with
  | none => rw [e] at h; exact h1 _ h
  | some n =>
    rw [e] at h
    dsimp only at h ⊢
    cases e2 : n.last with
    | none => rw [e2] at h; exact h1 _ h
    | some v =>
      rw [e2] at h
      dsimp only at h ⊢
      cases e3 : (Co01.waits false n.left)[i]? with
      | none => rw [e3] at h; exact h1 _ h
      | some x =>
        rw [e3] at h
        dsimp only at h ⊢
        by_cases c : x.1 ≠ kindI m
        · rw [if_pos c] at h ⊢; exact h1 _ h
        · rw [if_neg c] at h ⊢; exact h2 h
theorem one_of {CS CL ln er tl : Addr} {H : Hp} {Q : VK} {s : Co01.St} {i : Nat} {m w : Bool} (q : After CS CL ln er tl H Q (Co01.deciding s (kindI m) i w)) (L : LnAt CS CL H ln er tl s) :
    One H Q s i m (∃ n v x, s.now = some n ∧ n.last = some v ∧ (Co01.waits false n.left)[i]? = some x ∧ x.1 = kindI m) := by
  unfold One
  unfold Co01.deciding at q
  cases e : s.now with
  | none => rw [e] at q; exact q.told L
  | some n =>
    rw [e] at q
    dsimp only at q ⊢
    cases e2 : n.last with
    | none => rw [e2] at q; exact q.told L
    | some v =>
      rw [e2] at q
      dsimp only at q ⊢
      cases e3 : (Co01.waits false n.left)[i]? with
      | none => rw [e3] at q; exact q.told L
      | some x =>
        rw [e3] at q
        dsimp only at q ⊢
        by_cases c : x.1 ≠ kindI m
        · rw [if_pos c] at q ⊢; exact q.told L
        · rw [if_neg c]; exact ⟨n, v, x, rfl, e2, e3, Decidable.of_not_not c⟩
section
variable {P : Program} {w : World} {K : PySem.W.Frag} {mg : Str → Option Value} {base : Heap} {f : Addr} {fd : FuncData} {CS CL : Addr}
/-! ## choose -/
abbrev sChoose : Stmt := inClass (top 74) 4
def spChoose (CS CL : Addr) : Sp := fun vs H Q _ => ∃ (ln er tl : Addr) (s : Co01.St) (k i j : Nat), vs = [.ref ln, .int i, .int j] ∧ LnAt CS CL H ln er tl s ∧ StOk k s ∧ k ≤ 100 ∧ After CS CL ln er tl H Q (Co01.step s (.choose i j))
theorem scChoose : FnScope ["self", "number", "which", "refused"] ["self", "number", "which"] (defScope sChoose) := ⟨rfl, rfl, rfl, by decide +kernel, rfl, by decide +kernel, by decide +kernel⟩
theorem ok_choose {f1 f2 f4 f5 f6 : Addr} {fd1 fd2 fd4 fd5 fd6 : FuncData} (F : L2.Fun K "choose" "Line.choose" sChoose f fd) (T : LineTxt K CL) (TS : StdTxt K CS) (g1 : IntG mg "DOES_NOT_FIT" 1)
    (F1 : FnP K "refusal" sRefusal f1 fd1) (m1 : mg "refusal" = some (.ref f1)) (G1 : FnOk P w K mg base CX0 1 f1 fd1 ["number"] spRefusal)
    (F2 : FnP K "choice_made" sChoice f2 fd2) (m2 : mg "choice_made" = some (.ref f2)) (G2 : FnOk P w K mg base CX0 2 f2 fd2 ["agreement", "place", "which"] spChoice)
    (F4 : L2.Fun K "refused_of_one" "Line.refused_of_one" sRefO f4 fd4) (m4 : Meth K CL "refused_of_one" f4) (G4 : FnOk P w K mg base CX0 5 f4 fd4 ["self", "number", "is_may"] (spRefO CS CL))
    (F5 : L2.Fun K "place_of" "Line.place_of" sPlaceOf f5 fd5) (m5 : Meth K CL "place_of" f5) (G5 : FnOk P w K mg base CX0 4 f5 fd5 ["self", "number"] (spPlaceOf CS CL))
    (F6 : L2.Fun K "settle" "Line.settle" sSettle f6 fd6) (m6 : Meth K CL "settle" f6) (G6 : FnOk P w K mg base CX0 6 f6 fd6 ["self", "agreement"] (spSettle CS CL)) :
    FnOk P w K mg base CX0 7 f fd ["self", "number", "which"] (spChoose CS CL) := by
  have b1 : Binds K fd1 ["number"] [] := F1.binds fun _ _ _ _ _ _ us hl => match us, hl with | [_], _ => rfl
  have b2 : Binds K fd2 ["agreement", "place", "which"] [] := F2.binds fun _ _ _ _ _ _ us hl => match us, hl with | [_, _, _], _ => rfl
  have b4 : Binds K fd4 ["self", "number", "is_may"] [] := F4.binds fun _ _ _ _ _ _ us hl => match us, hl with | [_, _, _], _ => rfl
  have b5 : Binds K fd5 ["self", "number"] [] := F5.binds fun _ _ _ _ _ _ us hl => match us, hl with | [_, _], _ => rfl
  have b6 : Binds K fd6 ["self", "agreement"] [] := F6.binds fun _ _ _ _ _ _ us hl => match us, hl with | [_, _], _ => rfl
  refine F.ok scChoose (fun vs H Q E h => ?_) (fun cdv A outer s H vs Q E hr h => ⟨_, (pss_cons (ps_if (pt_cmpR op_gt (pv 2) pe_int (nomark _)) (pss_one (ps_ret (pe_call (G1.mono (by decide)) hr rfl m1 F1.kp b1 .nil pass0 (pa_cons (pe_gint g1) pa_nil)))) pss_nil)
    (pss_cons (ps_set (i := 3) scChoose.nd rfl (.inl rfl) (pe_meth (pv 0) T.cl m4 (G4.mono (by decide)) hr b4 .nil pass0 (pa_cons (pv 1) (pa_cons pe_bl pa_nil))))
    (pss_cons (ps_if (pt_cmpR op_notN (pv 3) pe_non (nomark _)) (pss_one (ps_ret (pv 3))) pss_nil)
    (pss_one (ps_ret (pe_meth (pv 0) T.cl m6 G6 hr b6 .nil pass0 (pa_cons (pe_call (G2.mono (by decide)) hr rfl m2 F2.kp b2 .nil pass0 (pa_cons (pe_fld (pe_fld (pv 0) rfl) rfl) (pa_cons (pe_meth (pv 0) T.cl m5 (G5.mono (by decide)) hr b5 .nil pass0 (pa_cons (pv 1) pa_nil)) (pa_cons (pv 2) pa_nil)))) pa_nil))))))), ?_⟩)
  · obtain ⟨ln, er, tl, s, k, i, j, rfl, _⟩ := h
    rfl
  · obtain ⟨ln, er, tl, s, k, i, j, rfl, L0, ok, hk, q⟩ := h
    obtain ⟨dx, nm, nw, xs, ns, L⟩ := id L0
    have q : After CS CL ln er tl H Q (if 1 < j then (s, [-1]) else Co01.deciding s 0 i (j == 1)) := q
    refine ⟨_, rfl, _, _, rfl, rfl, _, rfl, ?_⟩
    by_cases c : 1 < j
    · rw [decide_eq_true (show (1 : Int) < (j : Int) by omega)]
      rw [if_pos c] at q
      exact ⟨1, rfl, q.told L0⟩
    · rw [decide_eq_false (show ¬ (1 : Int) < (j : Int) by omega)]
      rw [if_neg c] at q
      have q : After CS CL ln er tl H Q (Co01.deciding s (kindI false) i (j == 1)) := q
      refine ⟨_, rfl, ln, dx, _, rfl, L.obj, rfl, _, rfl, ln, er, tl, s, i, false, rfl, L0, fun n e => ?_, (one_of q L0).imp (fun l t H1 r k1 hr1 an => ⟨_, rfl, rfl, _, rfl, _, rfl, t H1 r k1 hr1 an⟩) fun ⟨n, v, ⟨kd, sd⟩, e, el, hx, ek⟩ H1 k1 => ?_⟩
      · have := (ok.now n e).gok.len; omega
      · obtain rfl : kd = 0 := ek
        have nk := ok.now n e
        have len := nk.gok.len
        rw [show kindI false = 0 from rfl, deciding_eq _ nk e el hx] at q
        obtain ⟨p, hp⟩ := waits_kinds hx
        obtain ⟨kind, e1, pq, epq, cut⟩ := Mx.waits_cut (j == 1) n.left false 0 i p _ hp
        rw [Nat.zero_add] at epq
        subst epq
        rw [hx] at e1
        obtain rfl : 0 = kind := congrArg Prod.fst (Option.some.inj e1)
        obtain ⟨pre, suf, cut⟩ := cut
        obtain ⟨_, A1, B1, z, hz, c1, c2, c3⟩ := cut.resolve_right fun h => nomatch h.1
        have hn := L.now
        rw [e] at hn
        obtain ⟨x, rfl, sx, ag, pm, sv, h1, h2, h3, _⟩ := hn
        have L1 := L.keeps k1
        refine ⟨_, rfl, rfl, _, rfl, ?_⟩
        refine ⟨_, rfl, ln, dx, _, rfl, L1.obj, rfl, _, rfl, ln, CL, dx, _, .ref x, rfl, L1.obj, T.cl, T.nW, rfl, x, CS, sx, _, .ref ag, rfl, k1 _ _ h1, TS.cl, TS.nA, rfl, _, rfl, ln, dx, _, rfl, L1.obj, rfl, _, rfl, ln, er, tl, s, n, i, p, _, rfl, ⟨dx, nm, _, xs, ns, L1⟩, e, by omega, hp, fun H2 k2 => ?_⟩
        have k02 := k1.trans k2
        have ag2 := h2.keeps (Bd.Same.tk k02)
        have es : Mx.post n.left = pre ++ Mx.post A1 ++ Mx.post B1 ++ [z] ++ suf := by rw [c1]; simp
        rw [es] at ag2 len
        refine ⟨_, rfl, ag, pre, Mx.post A1, Mx.post B1, suf, z, j, (by rw [c2]; rfl), ag2, Mx.back_post A1 1 (by decide), Mx.back_post B1 1 (by decide), known_post A1, known_post B1, by omega, fun H3 g k3 ag3 => ?_⟩
        have eg : pre ++ (if j = 0 then Mx.post A1 else Mx.post B1) ++ suf = Mx.post (Mx.chosen (j == 1) i n.left) := by
          rw [c3]
          have : j = 0 ∨ j = 1 := by omega
          rcases this with rfl | rfl <;> rfl
        rw [eg] at ag3
        have k03 := k02.trans k3
        exact ⟨ln, er, tl, g, s, n, v, _, k, rfl, L0.keeps k03, e, el, nk, hk, ok.len, ag3, nk.gok.chosen _ _, fun H4 er' r kc her hL hr4 an => q H4 er' r ((Bd.Same.chg k03 _).trans kc) (.inr (k03.free her)) hL (k03.free hr4) an⟩
/-! ## begin -/
abbrev sBegin : Stmt := inClass (top 74) 5
def spBegin (CS CL : Addr) : Sp := fun vs H Q _ => ∃ (ln er tl : Addr) (s : Co01.St) (k i : Nat), vs = [.ref ln, .int i] ∧ LnAt CS CL H ln er tl s ∧ StOk k s ∧ k ≤ 100 ∧ After CS CL ln er tl H Q (Co01.step s (.begin_ i))
theorem scBegin : FnScope ["self", "number", "refused"] ["self", "number"] (defScope sBegin) := ⟨rfl, rfl, rfl, by decide +kernel, rfl, by decide +kernel, by decide +kernel⟩
theorem ok_begin {f2 f4 f5 f6 : Addr} {fd2 fd4 fd5 fd6 : FuncData} (F : L2.Fun K "begin" "Line.begin" sBegin f fd) (T : LineTxt K CL) (TS : StdTxt K CS)
    (F2 : FnP K "begun" sBegun f2 fd2) (m2 : mg "begun" = some (.ref f2)) (G2 : FnOk P w K mg base CX0 1 f2 fd2 ["agreement", "place"] spBegun)
    (F4 : L2.Fun K "refused_of_one" "Line.refused_of_one" sRefO f4 fd4) (m4 : Meth K CL "refused_of_one" f4) (G4 : FnOk P w K mg base CX0 5 f4 fd4 ["self", "number", "is_may"] (spRefO CS CL))
    (F5 : L2.Fun K "place_of" "Line.place_of" sPlaceOf f5 fd5) (m5 : Meth K CL "place_of" f5) (G5 : FnOk P w K mg base CX0 4 f5 fd5 ["self", "number"] (spPlaceOf CS CL))
    (F6 : L2.Fun K "settle" "Line.settle" sSettle f6 fd6) (m6 : Meth K CL "settle" f6) (G6 : FnOk P w K mg base CX0 6 f6 fd6 ["self", "agreement"] (spSettle CS CL)) :
    FnOk P w K mg base CX0 7 f fd ["self", "number"] (spBegin CS CL) := by
  have b2 : Binds K fd2 ["agreement", "place"] [] := F2.binds fun _ _ _ _ _ _ us hl => match us, hl with | [_, _], _ => rfl
  have b4 : Binds K fd4 ["self", "number", "is_may"] [] := F4.binds fun _ _ _ _ _ _ us hl => match us, hl with | [_, _, _], _ => rfl
  have b5 : Binds K fd5 ["self", "number"] [] := F5.binds fun _ _ _ _ _ _ us hl => match us, hl with | [_, _], _ => rfl
  have b6 : Binds K fd6 ["self", "agreement"] [] := F6.binds fun _ _ _ _ _ _ us hl => match us, hl with | [_, _], _ => rfl
  refine F.ok scBegin (fun vs H Q E h => ?_) (fun cdv A outer s H vs Q E hr h => ⟨_, (pss_cons (ps_set (i := 2) scBegin.nd rfl (.inl rfl) (pe_meth (pv 0) T.cl m4 (G4.mono (by decide)) hr b4 .nil pass0 (pa_cons (pv 1) (pa_cons pe_bl pa_nil))))
    (pss_cons (ps_if (pt_cmpR op_notN (pv 2) pe_non (nomark _)) (pss_one (ps_ret (pv 2))) pss_nil)
    (pss_one (ps_ret (pe_meth (pv 0) T.cl m6 G6 hr b6 .nil pass0 (pa_cons (pe_call (G2.mono (by decide)) hr rfl m2 F2.kp b2 .nil pass0 (pa_cons (pe_fld (pe_fld (pv 0) rfl) rfl) (pa_cons (pe_meth (pv 0) T.cl m5 (G5.mono (by decide)) hr b5 .nil pass0 (pa_cons (pv 1) pa_nil)) pa_nil))) pa_nil)))))), ?_⟩)
  · obtain ⟨ln, er, tl, s, k, i, rfl, _⟩ := h
    rfl
  · obtain ⟨ln, er, tl, s, k, i, rfl, L0, ok, hk, q⟩ := h
    obtain ⟨dx, nm, nw, xs, ns, L⟩ := id L0
    have q : After CS CL ln er tl H Q (Co01.deciding s (kindI true) i false) := q
    refine ⟨_, rfl, ln, dx, _, rfl, L.obj, rfl, _, rfl, ln, er, tl, s, i, true, rfl, L0, fun n e => ?_, (one_of q L0).imp (fun l t H1 r k1 hr1 an => ⟨_, rfl, rfl, _, rfl, _, rfl, t H1 r k1 hr1 an⟩) fun ⟨n, v, ⟨kd, sd⟩, e, el, hx, ek⟩ H1 k1 => ?_⟩
    · have := (ok.now n e).gok.len; omega
    · obtain rfl : kd = 1 := ek
      have nk := ok.now n e
      have len := nk.gok.len
      rw [show kindI true = 1 from rfl, deciding_eq _ nk e el hx] at q
      obtain ⟨p, hp⟩ := waits_kinds hx
      obtain ⟨kind, e1, pq, epq, cut⟩ := Mx.waits_cut false n.left false 0 i p _ hp
      rw [Nat.zero_add] at epq
      subst epq
      rw [hx] at e1
      obtain rfl : 1 = kind := congrArg Prod.fst (Option.some.inj e1)
      obtain ⟨pre, suf, cut⟩ := cut
      obtain ⟨_, A1, kk, c1, c2, c3⟩ := cut.resolve_left fun h => nomatch h.1
      have hn := L.now
      rw [e] at hn
      obtain ⟨x, rfl, sx, ag, pm, sv, h1, h2, h3, _⟩ := hn
      have L1 := L.keeps k1
      refine ⟨_, rfl, rfl, _, rfl, ?_⟩
      refine ⟨_, rfl, ln, dx, _, rfl, L1.obj, rfl, _, rfl, ln, CL, dx, _, .ref x, rfl, L1.obj, T.cl, T.nW, rfl, x, CS, sx, _, .ref ag, rfl, k1 _ _ h1, TS.cl, TS.nA, rfl, _, rfl, ln, dx, _, rfl, L1.obj, rfl, _, rfl, ln, er, tl, s, n, i, p, _, rfl, ⟨dx, nm, _, xs, ns, L1⟩, e, by omega, hp, fun H2 k2 => ?_⟩
      have k02 := k1.trans k2
      have ag2 := h2.keeps (Bd.Same.tk k02)
      have es : Mx.post n.left = (pre ++ Mx.post A1) ++ [Mx.st "may" (.num kk)] ++ suf := by rw [c1]; simp
      rw [es] at ag2 len
      refine ⟨ag, pre ++ Mx.post A1, suf, _, (by rw [c2, List.length_append]; rfl), ag2, by omega, fun H3 g k3 ag3 => ?_⟩
      rw [← c3] at ag3
      have k03 := k02.trans k3
      exact ⟨ln, er, tl, g, s, n, v, _, k, rfl, L0.keeps k03, e, el, nk, hk, ok.len, ag3, nk.gok.chosen _ _, fun H4 er' r kc her hL hr4 an => q H4 er' r ((Bd.Same.chg k03 _).trans kc) (.inr (k03.free her)) hL (k03.free hr4) an⟩
end
end Bd
end
section
set_option Elab.async false
set_option linter.all false
set_option maxRecDepth 100000
set_option maxHeartbeats 4000000
set_option autoImplicit false
namespace Bd
open PySem PySem.Spec PyProof.Rows L2
theorem keys_texts (ns : List Co01.Bytes) : (ns.map fun n => (Sum.inr (sB n) : Key)).map kV = texts ns := by
  induction ns with
  | nil => rfl
  | cons n ns ih => rw [List.map_cons, List.map_cons, ih]; rfl
theorem keys_nodup {ns : List Co01.Bytes} (h : ns.Nodup) : (ns.map fun n => (Sum.inr (sB n) : Key)).Nodup := by
  refine List.pairwise_map.mpr (h.imp fun {a b} hab q => hab (sB_inj.mp (Sum.inr.inj q)))
theorem tAnd_h {t u : TT} {σ : L2.St} {H : Hp} {Q : Bool → Hp → Prop} (b1 b2 : Bool) (ht : ∀ R : Bool → Hp → Prop, R b1 H → t σ H R) (hu : b1 = true → ∀ R : Bool → Hp → Prop, (∀ H', Same H H' → R b2 H') → u σ H R) (q : ∀ H', Same H H' → Q (b1 && b2) H') : tAnd t u σ H Q := by
  refine ht _ ?_
  cases b1 with
  | false => exact q H (Same.refl H)
  | true => exact hu rfl _ q
def dayNow (n : Co01.Now) (v : List Int) : Co01.Now := ⟨n.names, (Co01.run n.next (n.names.zip v) n.left).1, n.next + 1, some (n.names.zip v), (n.next, (Co01.run n.next (n.names.zip v) n.left).2) :: n.paid⟩
section
variable {P : Program} {w : World} {K : PySem.W.Frag} {mg : Str → Option Value} {base : Heap} {f : Addr} {fd : FuncData} {CS CL : Addr}
/-! ## start_day -/
abbrev sDay : Stmt := inClass (top 74) 2
def spDay (CS CL : Addr) : Sp := fun vs H Q _ => ∃ (ln er tl a : Addr) (s : Co01.St) (k : Nat) (v : List Int), vs = [.ref ln, .ref a] ∧ LnAt CS CL H ln er tl s ∧ StOk k s ∧ k ≤ 100 ∧ H a = some (.lst (v.map V.int)) ∧ (∀ x ∈ v, x.natAbs ≤ 1000000) ∧ After CS CL ln er tl H Q (Co01.step s (.day v))
theorem scDay : FnScope ["self", "numbers", "now", "day", "seen", "left", "paid"] ["self", "numbers"] (defScope sDay) := ⟨rfl, rfl, rfl, by decide +kernel, rfl, by decide +kernel, by decide +kernel⟩
theorem ok_day {C fI f1 f2 f3 f4 : Addr} {fdI fd1 fd2 fd3 fd4 : FuncData} (F : L2.Fun K "start_day" "Line.start_day" sDay f fd) (T : LineTxt K CL) (TS : StdTxt K CS) (g9 : IntG mg "NO_AGREEMENT" 9) (g1 : IntG mg "DOES_NOT_FIT" 1) (g6 : IntG mg "CHOICE_WAITS" 6)
    (gL : mg "len" = none) (gD : mg "dict" = none) (gZ : mg "zip" = none)
    (gC : mg "Standing" = some (.ref CS)) (M : Mk K CS fI) (FI : L2.Fun K "__init__" "Standing.__init__" sStdI fI fdI) (GI : FnOk P w K mg base CX0 1 fI fdI ["self", "agreement", "next_day", "seen", "payments"] (spStdI CS))
    (F1 : FnP K "refusal" sRefusal f1 fd1) (m1 : mg "refusal" = some (.ref f1)) (G1 : FnOk P w K mg base CX0 1 f1 fd1 ["number"] spRefusal)
    (F2 : FnP K "choice_waits" sChoiceW f2 fd2) (m2 : mg "choice_waits" = some (.ref f2)) (G2 : FnOk P w K mg base CX0 4 f2 fd2 ["agreement"] spChoiceW)
    (F3 : FnP K "gone_through" sGone f3 fd3) (m3 : mg "gone_through" = some (.ref f3)) (G3 : FnOk P w K mg base CX0 5 f3 fd3 ["agreement", "day", "seen"] (spGone C))
    (F4 : L2.Fun K "move_on" "Line.move_on" sMoveOn f4 fd4) (m4 : Meth K CL "move_on" f4) (G4 : FnOk P w K mg base CX0 1 f4 fd4 ["self", "standing"] (spMoveOn CS CL)) :
    FnOk P w K mg base CX0 6 f fd ["self", "numbers"] (spDay CS CL) := by
  have bI : Binds K fdI ["self", "agreement", "next_day", "seen", "payments"] [] := FI.binds fun _ _ _ _ _ _ us hl => match us, hl with | [_, _, _, _, _], _ => rfl
  have b1 : Binds K fd1 ["number"] [] := F1.binds fun _ _ _ _ _ _ us hl => match us, hl with | [_], _ => rfl
  have b2 : Binds K fd2 ["agreement"] [] := F2.binds fun _ _ _ _ _ _ us hl => match us, hl with | [_], _ => rfl
  have b3 : Binds K fd3 ["agreement", "day", "seen"] [] := F3.binds fun _ _ _ _ _ _ us hl => match us, hl with | [_, _, _], _ => rfl
  have b4 : Binds K fd4 ["self", "standing"] [] := F4.binds fun _ _ _ _ _ _ us hl => match us, hl with | [_, _], _ => rfl
  refine F.ok scDay (fun vs H Q E h => ?_) (fun cdv A outer s H vs Q E hr h => ⟨_, (pss_cons (ps_set (i := 2) scDay.nd rfl (.inl rfl) (pe_fld (pv 0) rfl))
    (pss_cons (ps_if (pt_cmpR op_isN (pv 2) pe_non (nomark _)) (pss_one (ps_ret (pe_call (G1.mono (by decide)) hr rfl m1 F1.kp b1 .nil pass0 (pa_cons (pe_gint g9) pa_nil)))) pss_nil)
    (pss_cons (ps_if (pt_cmpR op_ne (pe_callB call_len_seq rfl gL PySem.boot_len (pa_cons (pv 1) pa_nil)) (pe_callB call_len_seq rfl gL PySem.boot_len (pa_cons (pe_fld (pv 0) rfl) pa_nil)) (nomark _)) (pss_one (ps_ret (pe_call (G1.mono (by decide)) hr rfl m1 F1.kp b1 .nil pass0 (pa_cons (pe_gint g1) pa_nil)))) pss_nil)
    (pss_cons (ps_if (PW.pt (pw_and (pt_cmpR op_notN (pe_fld (pv 2) rfl) pe_non (nomark _)) (pw_and1 (pt_val (pe_call (G2.mono (by decide)) hr rfl m2 F2.kp b2 .nil pass0 (pa_cons (pe_fld (pv 2) rfl) pa_nil)))))) (pss_one (ps_ret (pe_call (G1.mono (by decide)) hr rfl m1 F1.kp b1 .nil pass0 (pa_cons (pe_gint g6) pa_nil)))) pss_nil)
    (pss_cons (ps_set (i := 3) scDay.nd rfl (.inl rfl) (pe_fld (pv 2) rfl))
    (pss_cons (ps_set (i := 4) scDay.nd rfl (.inl rfl) (pe_dzip rfl rfl gZ rfl gD (pa_cons (pe_fld (pv 0) rfl) (pa_cons (pv 1) pa_nil))))
    (pss_cons (ps_asg (pe_call G3 hr rfl m3 F3.kp b3 .nil pass0 (pa_cons (pe_fld (pv 2) rfl) (pa_cons (pv 3) (pa_cons (pv 4) pa_nil)))) (pg_tup rfl (pgs_cons (pg_name (i := 5) scDay.nd rfl (.inl rfl)) (pgs_cons (pg_name (i := 6) scDay.nd rfl (.inl rfl)) pgs_nil))))
    (pss_cons (ps_expr (pe_meth (pv 0) T.cl m4 (G4.mono (by decide)) hr b4 .nil pass0 (pa_cons (pe_make M (GI.mono (by decide)) hr rfl gC bI .nil pass0 (pa_cons (pv 5) (pa_cons (pe_op op_add (pv 3) pe_int) (pa_cons (pv 4) (pa_cons (pe_op op_cat (pe_fld (pv 2) rfl) (pe_lst (pa_cons (pe_tup (pa_cons (pv 3) (pa_cons (pv 6) pa_nil))) pa_nil))) pa_nil))))) pa_nil)))
    (pss_one (ps_ret (pe_lst (pa_cons (pv 3) (pa_cons (pv 6) pa_nil))))))))))))), ?_⟩)
  · obtain ⟨ln, er, tl, a, s, k, v, rfl, _⟩ := h
    rfl
  · obtain ⟨ln, er, tl, a, s, k, v, rfl, L0, ok, hk, hav, hvs, q⟩ := h
    obtain ⟨dx, nm, nw, xs, ns, L⟩ := id L0
    have hn := L.now
    refine ⟨_, rfl, ln, CL, dx, _, nw, rfl, L.obj, T.cl, T.nW, rfl, ?_⟩
    refine ⟨_, rfl, rfl, _, rfl, ?_⟩
    cases e : s.now with
    | none =>
      have e1 : Co01.step s (.day v) = (s, [-9]) := by unfold Co01.step; rw [e]
      rw [e1] at q
      rw [e] at hn
      obtain rfl : nw = .non := hn
      exact ⟨9, rfl, q.told L0⟩
    | some n =>
      have e1 : Co01.step s (.day v) = if v.length ≠ n.names.length then (s, [-1]) else if n.last.isSome = true ∧ Co01.mustChoose n.left = true then (s, [-6]) else
        (goOn s n (dayNow n v), [(n.next : Int), (Co01.run n.next (n.names.zip v) n.left).2]) := by unfold Co01.step; rw [e]; rfl
      rw [e1] at q
      rw [e] at hn
      have nk := ok.now n e
      have en := L.same n e
      obtain ⟨x, rfl, sx, ag, pm, sv, h1, h2, h3, ⟨as, h4, h5⟩, nx, np⟩ := hn
      have lns : (texts ns).length = n.names.length := by rw [en]; simp [texts]
      refine ⟨_, rfl, a, _, rfl, .inl (.inl (.inl hav)), _, rfl, ln, CL, dx, _, .ref nm, rfl, L.obj, T.cl, T.nN, rfl, nm, _, rfl, .inl (.inl (.inl L.nms)), rfl, _, rfl, ?_⟩
      rw [List.length_map, lns]
      by_cases c1 : v.length = n.names.length
      · rw [if_neg (fun h => h c1)] at q
        rw [c1, decide_eq_true (show V.int (n.names.length : Int) = V.int (n.names.length : Int) from rfl)]
        have hsv : (!decide (sv = V.non)) = n.last.isSome := by
          unfold SeenV at h3
          cases e2 : n.last with
          | none => rw [e2] at h3; rw [h3]; rfl
          | some y => rw [e2] at h3; obtain ⟨d, rfl, _⟩ := h3; rfl
        have len := nk.gok.len
        dsimp only
        rw [if_neg (show ¬ (!true) = true by decide)]
        dsimp only [tSeq, tIfS, tNext]
        refine tAnd_h n.last.isSome (Co01.mustChoose n.left) (fun R h => ⟨_, rfl, x, CS, sx, _, sv, rfl, h1, TS.cl, TS.nS, rfl, rfl, _, rfl, by rw [hsv]; exact h⟩)
          (fun _ R h => ⟨_, rfl, x, CS, sx, _, .ref ag, rfl, h1, TS.cl, TS.nA, rfl, ag, n.left, rfl, h2, by omega, fun H1 k1 => ⟨_, rfl, h H1 k1⟩⟩) fun H1 k1 => ?_
        by_cases c2 : n.last.isSome = true ∧ Co01.mustChoose n.left = true
        · rw [if_pos c2] at q
          rw [c2.1, c2.2]
          have q := q.told L0
          exact ⟨6, rfl, fun H2 r k2 hr2 an => q H2 r (k1.trans k2) (k1.free hr2) an⟩
        · rw [if_neg c2] at q
          rw [show (n.last.isSome && Co01.mustChoose n.left) = false from Bool.eq_false_iff.mpr fun h => c2 (by simpa using h)]
          have L1 := L.keeps k1
          have h11 := k1 _ _ h1
          have ekeys := keys_texts ns
          rw [en] at c1
          refine ⟨_, rfl, x, CS, sx, _, .int n.next, rfl, h11, TS.cl, TS.nD, rfl, ?_⟩
          refine ⟨_, rfl, ln, CL, dx, _, .ref nm, rfl, L1.obj, T.cl, T.nN, rfl, _, rfl, nm, a, ns.map (fun n => (Sum.inr (sB n) : Key)), v.map V.int, rfl, (by rw [ekeys]; exact .inl (.inl L1.nms)), .inl (.inl (k1 _ _ hav)), (by simp [c1]), keys_nodup (en ▸ nk.nd), fun d hd => ?_⟩
          have k2 := same_new k1 hd (.dK ((ns.map fun n => (Sum.inr (sB n) : Key)).zip (v.map V.int)))
          have sd : SeenAt (L2.upd H1 d (.dK ((ns.map fun n => (Sum.inr (sB n) : Key)).zip (v.map V.int)))) d (n.names.zip v) n.names := ⟨_, upd_same, fun b hb => by rw [en] at hb ⊢; exact seen_zip b c1 hb⟩
          have sm : Mx.Small (n.names.zip v) := seen_small hvs
          refine ⟨_, rfl, x, CS, sx, _, .ref ag, rfl, k2 _ _ h1, TS.cl, TS.nA, rfl, _, rfl, _, rfl, ag, d, n.next, n.names.zip v, n.names, n.left, rfl, h2.keeps (Bd.Same.tk k2), sd, sm, nk.gok, fun H3 r k3 pr => ?_⟩
          obtain ⟨lf, hr1, agl⟩ := pr
          have k03 := k2.trans k3
          have L3 := L.keeps k03
          refine ⟨r, _, rfl, .inl (.inl hr1), rfl, _, _, rfl, _, _, rfl, rfl, ?_⟩
          refine ⟨_, rfl, ln, dx, _, rfl, L3.obj, rfl, _, rfl, _, rfl, _, _, rfl, rfl, _, rfl, _, rfl, x, CS, sx, _, .ref pm, rfl, k03 _ _ h1, TS.cl, TS.nP, rfl, _, rfl, _, rfl, (by show 2 ≤ sizeLine; decide), fun t ht => ⟨(by show 1 ≤ sizeLine; decide), fun b hb => ?_⟩⟩
          have k4 := same_new k03 ht (.tup [.int (n.next : Int), .int (Co01.run n.next (n.names.zip v) n.left).2])
          have k5 := same_new k4 hb (.lst [.ref t])
          have htb : t ≠ b := fun q => by rw [← q, upd_same] at hb; cases hb
          have lp := nk.pk
          have la : as.length = n.paid.length := by rw [h5.length, List.length_map, List.length_reverse]
          refine ⟨pm, b, as.map V.ref, [.ref t], rfl, rfl, k5 _ _ h4, upd_same, ?_, fun p2 hp2 => ?_⟩
          · rw [List.length_map]; exact Nat.le_of_lt (small1000 (by simp; omega))
          have k6 := same_new k5 hp2 (.lst (as.map V.ref ++ [.ref t]))
          have ht6 : (L2.upd (L2.upd (L2.upd H3 t (.tup [.int (n.next : Int), .int (Co01.run n.next (n.names.zip v) n.left).2])) b (.lst [.ref t])) p2 (.lst (as.map V.ref ++ [.ref t]))) t = some (.tup [.int (n.next : Int), .int (Co01.run n.next (n.names.zip v) n.left).2]) := by
            have e1 : t ≠ p2 := fun q => by rw [← q, upd_ne htb, upd_same] at hp2; cases hp2
            rw [upd_ne e1, upd_ne htb, upd_same]
          intro o dxo ho hdx ne
          refine ⟨o, dxo, lf, p2, (n.next : Int) + 1, .ref d, rfl, upd_same, fun H7 oo b7 => ⟨rfl, ?_⟩⟩
          have k67 := made_same ho hdx b7
          have k7 := k6.trans k67
          have pH : H p2 = none := k5.free hp2
          have oH : H o = none := k6.free ho
          have L7 := L.keeps k7
          have k37 : Same H3 H7 := Same.trans (same_new (same_new (same_new (Same.refl H3) ht _) hb _) hp2 _) k67
          refine ⟨ln, er, tl, o, s, n, dayNow n v, rfl, ⟨dx, nm, _, xs, ns, L7⟩, e, ok.len, std_made (n := dayNow n v) oo ?_ ?_ ⟨as ++ [t], ?_, ?_⟩ (L.old oH) (L.old pH), rfl, fun H8 er' kc her hL => ?_⟩
          · exact agl.keeps (Bd.Same.tk k37)
          · exact ⟨d, rfl, sd.keeps (k3.trans k37)⟩
          · rw [List.map_append]
            exact k67 _ _ upd_same
          · show Tups H7 (as ++ [t]) ((((n.next, (Co01.run n.next (n.names.zip v) n.left).2) :: n.paid).reverse).map payT)
            rw [List.reverse_cons, List.map_append]
            exact (h5.keeps (Bd.Same.tk k7)).app (.cons (k67 _ _ ht6) .nil)
          · have kH8 : Chg [ln, er] H H8 := (Bd.Same.chg k7 _).trans kc
            refine ⟨_, rfl, _, rfl, (by show 2 ≤ sizeLine; decide), fun rr hrr => ?_⟩
            have e8 : Same H8 (L2.upd H8 rr (.lst [.int (n.next : Int), .int (Co01.run n.next (n.names.zip v) n.left).2])) := same_new (Same.refl H8) hrr _
            exact q _ er' rr (kH8.trans (Bd.Same.chg e8 _)) (.inr (k7.free her)) (hL.keeps e8) (kH8.1 _ hrr) upd_same
      · rw [if_pos c1] at q
        rw [decide_eq_false (show ¬ V.int (v.length : Int) = V.int (n.names.length : Int) from fun h => c1 (by have := V.int.inj h; omega))]
        exact ⟨1, rfl, q.told L0⟩
end
end Bd
end
section
set_option Elab.async false
set_option linter.all false
set_option maxRecDepth 100000
set_option maxHeartbeats 4000000
set_option autoImplicit false
namespace Bd
open PySem PySem.Spec PyProof.Rows L2
theorem takes0N {X : Cx} : L2N.Takes X (fun _ _ _ _ => False) := fun _ _ x => by
  obtain ⟨_, _, _, _, _, _, _, _, _, _, _, _, _, _, _, _, z⟩ := x
  exact z.elim
section
variable {P : Program} {w : World} {K : PySem.W.Frag} {mg : Str → Option Value} {base : Heap} {f : Addr} {fd : FuncData} {CS CL : Addr}
/-- refusal, called within a suite -/
theorem ok_refusalH (F : FnP K "refusal" sRefusal f fd) : L2H.FnH P w K mg base CX0 1 f fd ["number"] spRefusal := by
  refine L2.Fun.okH F scRefusal (fun vs H Q E h => ?_) (fun cdv A outer s H vs Q E p ht hr h => ⟨_, pss_one (ps_ret (pe_lst (pa_cons (pe_un un_neg (pv 0)) pa_nil))), ?_⟩)
  · obtain ⟨n, rfl, _⟩ := h
    rfl
  · obtain ⟨n, rfl, q⟩ := h
    exact ⟨_, rfl, n, rfl, (by show 1 ≤ sizeLine; decide), fun l hl => q _ l (same_new (Same.refl H) hl _) hl upd_same⟩
/-! ## take_up -/
abbrev sTake : Stmt := inClass (top 74) 1
def spTake (CS CL : Addr) : Sp := fun vs H Q _ => ∃ (ln er tl a : Addr) (s : Co01.St) (k d : Nat) (bs : Co01.Bytes), vs = [.ref ln, .int d, .ref a] ∧ LnAt CS CL H ln er tl s ∧ StOk k s ∧ H a = some (.lst (nats bs)) ∧ bs.length ≤ 200 ∧ After CS CL ln er tl H Q (Co01.step s (.open_ bs d))
theorem scTake : FnScope ["self", "day", "text", "tokens", "agreement", "fault", "names"] ["self", "day", "text"] (defScope sTake) := ⟨rfl, rfl, rfl, by decide +kernel, rfl, by decide +kernel, by decide +kernel⟩
/-- the try's body, its suite -/
def tTry (C : Addr) (K : PySem.W.Frag) : WX → TS := fun W => tSeq (tAsg (tCallS (spTokens C K) (L2.WE W) (tCons (tVar 2) tNil)) (gName 3)) (tAsg (tCallS (spAgr C) (L2.WE W) (tCons (tVar 3) tNil)) (gName 4))
def tHot (C : Addr) : Addr → Value → Option Addr → TS := fun a cls d => tRet (tCallS spRefusal (fun _ => E0) (tCons (tOp rAdd (tC (.int 10)) (tByLow C a cls d (tVar 5))) tNil))
theorem ok_take {C fI fI2 f1 f2 f3 f4 f5 : Addr} {fdI fd1 fd2 fd3 fd4 fd5 : FuncData} (F : L2.Fun K "take_up" "Line.take_up" sTake f fd) (T : LineTxt K CL) (TF : PySem.FaultX.FaultTxt K mg C fI2) (gF : IntG mg "FAULT" 10) (g1 : IntG mg "DOES_NOT_FIT" 1) (g4 : IntG mg "MOST_NAMES" 4) (gL : mg "len" = none)
    (gC : mg "Standing" = some (.ref CS)) (M : Mk K CS fI) (FI : L2.Fun K "__init__" "Standing.__init__" sStdI fI fdI) (GI : FnOk P w K mg base CX0 1 fI fdI ["self", "agreement", "next_day", "seen", "payments"] (spStdI CS))
    (F1 : FnP K "refusal" sRefusal f1 fd1) (m1 : mg "refusal" = some (.ref f1)) (G1 : FnOk P w K mg base CX0 1 f1 fd1 ["number"] spRefusal)
    (F2 : FnP K "tokens_of" sTokens f2 fd2) (m2 : mg "tokens_of" = some (.ref f2)) (G2 : FnOk P w K mg base (L2N.CX P w) 4 f2 fd2 ["text"] (spTokens C K))
    (F3 : FnP K "agreement_of" sAgr f3 fd3) (m3 : mg "agreement_of" = some (.ref f3)) (G3 : FnOk P w K mg base (L2N.CX P w) 4 f3 fd3 ["tokens"] (spAgr C))
    (F4 : FnP K "names_of" sNames f4 fd4) (m4 : mg "names_of" = some (.ref f4)) (G4 : FnOk P w K mg base CX0 1 f4 fd4 ["tokens"] spNames)
    (F5 : FnP K "names_told" sNamesTold f5 fd5) (m5 : mg "names_told" = some (.ref f5)) (G5 : FnOk P w K mg base CX0 2 f5 fd5 ["names"] spNamesTold) :
    FnOk P w K mg base CX0 5 f fd ["self", "day", "text"] (spTake CS CL) := by
  have bI : Binds K fdI ["self", "agreement", "next_day", "seen", "payments"] [] := FI.binds fun _ _ _ _ _ _ us hl => match us, hl with | [_, _, _, _, _], _ => rfl
  have b1 : Binds K fd1 ["number"] [] := F1.binds fun _ _ _ _ _ _ us hl => match us, hl with | [_], _ => rfl
  have b2 : Binds K fd2 ["text"] [] := F2.binds fun _ _ _ _ _ _ us hl => match us, hl with | [_], _ => rfl
  have b3 : Binds K fd3 ["tokens"] [] := F3.binds fun _ _ _ _ _ _ us hl => match us, hl with | [_], _ => rfl
  have b4 : Binds K fd4 ["tokens"] [] := F4.binds fun _ _ _ _ _ _ us hl => match us, hl with | [_], _ => rfl
  have b5 : Binds K fd5 ["names"] [] := F5.binds fun _ _ _ _ _ _ us hl => match us, hl with | [_], _ => rfl
  have GH : L2H.FnH P w K mg base CX0 1 f1 fd1 ["number"] spRefusal := ok_refusalH F1
  refine F.ok scTake (fun vs H Q E h => ?_) (fun cdv A outer s H vs Q E hr h => ⟨_, (pss_cons (L2N.ps_try_as (i := 5) (tb := tTry C K) (ts := tHot C) (Wout := fun _ _ _ _ => False) rfl rfl scTake.nd rfl rfl ⟨rfl, by decide, Or.inl TF.gC⟩ takes0N
      (fun W pn xe tk _ => pss_cons (ps_set (i := 3) scTake.nd rfl (Or.inl rfl) (by exact (pe_callS G2 hr rfl m2 F2.kp b2 (fun σ => L2N.passAt tk σ) (by exact (pa_cons (pv 2) pa_nil)))))
        (pss_one (ps_set (i := 4) scTake.nd rfl (Or.inl rfl) (by exact (pe_callS G3 hr rfl m3 F3.kp b3 (fun σ => L2N.passAt tk σ) (by exact (pa_cons (pv 3) pa_nil)))))))
      (fun a oe cls d pn hz hf => pss_one (ps_ret (by
        exact (L2H.pe_callH GH ⟨(L2H.roomH_of (hr.mono (by decide : 1 ≤ 4))).dp, (L2H.roomH_of (hr.mono (by decide : 1 ≤ 4))).un⟩ (hf.elim fun vs hd => ⟨(a, oe), ⟨rfl, vs, hd, hz.2.2 vs hd⟩, List.mem_cons_self⟩) rfl m1 F1.kp b1 (fun _ _ _ _ _ _ _ h => h.elim) (by exact (pa_cons (pe_op op_add (pe_gint gF) (pe_byLow TF hz.zc hf (pv 5))) pa_nil)))))))
    (pss_cons (ps_set (i := 6) scTake.nd rfl (.inl rfl) (pe_call (G4.mono (by decide)) hr rfl m4 F4.kp b4 .nil pass0 (pa_cons (pv 3) pa_nil)))
    (pss_cons (ps_if (pt_cmpR op_gt (pe_callB call_len_seq rfl gL PySem.boot_len (pa_cons (pv 6) pa_nil)) (pe_gint g4) (nomark _)) (pss_one (ps_ret (pe_call (G1.mono (by decide)) hr rfl m1 F1.kp b1 .nil pass0 (pa_cons (pe_gint g1) pa_nil)))) pss_nil)
    (pss_cons (ps_fld (pv 0) (pe_make M (GI.mono (by decide)) hr rfl gC bI .nil pass0 (pa_cons (pv 4) (pa_cons (pv 1) (pa_cons pe_non (pa_cons (pe_lst pa_nil) pa_nil))))) rfl)
    (pss_cons (ps_fld (pv 0) (pe_lst pa_nil) rfl)
    (pss_cons (ps_fld (pv 0) (pv 6) rfl)
    (pss_one (ps_ret (pe_call (G5.mono (by decide)) hr rfl m5 F5.kp b5 .nil pass0 (pa_cons (pv 6) pa_nil)))))))))), ?_⟩)
  · obtain ⟨ln, er, tl, a, s, k, d, bs, rfl, _⟩ := h
    rfl
  · obtain ⟨ln, er, tl, a, s, k, d, bs, rfl, L0, ok, hab, hlen, q⟩ := h
    obtain ⟨dx, nm, nw, xs, ns, L⟩ := id L0
    have bad : ∀ p : Nat, Co01.readText bs = .error p → Told H Q [-10 - (p : Int)] := fun p e => by
      have e1 : Co01.step s (.open_ bs d) = (s, [-10 - (p : Int)]) := by simp only [Co01.step, e]
      rw [e1] at q
      exact q.told L0
    have neg : ∀ p : Nat, [-((10 : Int) + (p : Int))] = [-10 - (p : Int)] := fun p => by congr 1; omega
    refine ⟨_, rfl, a, bs, rfl, .inl (.inl hab), by omega, fun p hp H1 k1 d0 hd0 => ⟨true, TF.te, fun _ a0 ha0 => ?_, fun h => nomatch h⟩, fun toks hl H1 t k1 ht1 tok => ?_⟩
    · refine ⟨_, rfl, rfl, rfl, d0, _, rfl, upd_same, _, _, rfl, rfl, _, rfl, fun H2 r k2 hr2 an => ?_⟩
      have e : Co01.readText bs = .error p := by unfold Co01.readText; rw [hp]
      have kk := same_new k1 hd0 (.xd [(("place" : Str), .int p)])
      rw [neg] at an
      exact bad p e H2 r (kk.trans k2) (kk.free hr2) an
    · have tlen := Mx.lex_len _ _ _ _ hl
      cases e : Co01.readText bs with
      | error p =>
        rcases Mx.read_err e with h | ⟨r, n, h1, h2, h3, h4⟩
        · rw [h] at hl; cases hl
        · rw [hl] at h1
          obtain rfl := Except.ok.inj h1
          refine ⟨_, rfl, t, toks, bs.length, n, .error p, rfl, tok, by omega, by omega, h4, fun H2 k2 d0 hd0 => ⟨true, TF.te, fun _ a0 ha0 => ?_, fun h => nomatch h⟩⟩
          refine ⟨_, rfl, rfl, rfl, d0, _, rfl, upd_same, _, _, rfl, rfl, _, rfl, fun H3 r k3 hr3 an => ?_⟩
          have kk := same_new (k1.trans k2) hd0 (.xd [(("place" : Str), .int p)])
          rw [neg] at an
          exact bad p e H3 r (kk.trans k3) (kk.free hr3) an
      | ok ag =>
        obtain ⟨r, n, h1, h2, h3, h4, h5⟩ := Mx.read_ok e
        rw [hl] at h1
        obtain rfl := Except.ok.inj h1
        have e1 : Co01.step s (.open_ bs d) = if 4 < (Co01.once (Co01.names ag)).length then (s, [-1]) else (⟨some ⟨Co01.once (Co01.names ag), ag, d, none, []⟩, []⟩, ((Co01.once (Co01.names ag)).length : Int) :: (Co01.once (Co01.names ag)).flatMap Co01.counted) := by simp only [Co01.step, e]; rfl
        rw [e1] at q
        refine ⟨_, rfl, t, toks, bs.length, n, .ok ag, rfl, tok, by omega, by omega, h4, fun H2 p k2 agp => ?_⟩
        have tok2 : TokL H2 t toks bs.length := by
          obtain ⟨as, t1, t2⟩ := tok
          exact ⟨as, k2 _ _ t1, t2.keeps (Bd.Same.tk k2)⟩
        refine ⟨_, rfl, t, toks, bs.length, rfl, tok2, by omega, fun H3 nn k3 hnn hnl => ?_⟩
        rw [← h5] at hnl
        have k03 := (k1.trans k2).trans k3
        have nH : H nn = none := (k1.trans k2).free hnn
        refine ⟨_, rfl, nn, _, rfl, .inl (.inl (.inl hnl)), _, _, rfl, rfl, _, rfl, ?_⟩
        have lnt : (texts (Co01.once (Co01.names ag))).length = (Co01.once (Co01.names ag)).length := by simp [texts]
        rw [lnt]
        by_cases c : 4 < (Co01.once (Co01.names ag)).length
        · rw [if_pos c] at q
          rw [decide_eq_true (show (4 : Int) < ((Co01.once (Co01.names ag)).length : Int) by omega)]
          have q := q.told L0
          exact ⟨1, rfl, fun H4 r k4 hr4 an => q H4 r (k03.trans k4) (k03.free hr4) an⟩
        · rw [if_neg c] at q
          rw [decide_eq_false (show ¬ (4 : Int) < ((Co01.once (Co01.names ag)).length : Int) by omega)]
          refine ⟨_, rfl, _, rfl, (by show 0 ≤ sizeLine; decide), fun pm hpm o dxo ho hdx ne => ?_⟩
          have k4 := same_new k03 hpm (.lst [])
          refine ⟨o, dxo, p, pm, (d : Int), .non, rfl, upd_same, fun H5 oo b5 => ⟨rfl, ?_⟩⟩
          have k45 := made_same ho hdx b5
          have k5 := k4.trans k45
          have L5 := L.keeps k5
          have oH : H o = none := k4.free ho
          have pmH : H pm = none := k03.free hpm
          refine ⟨_, rfl, ln, CL, dx, _, rfl, L5.obj, T.cl, T.nW, (by show 3 < 1000; decide), ?_⟩
          refine ⟨by decide, fun e' he' => ?_⟩
          have hel : e' ≠ ln := fun z => by rw [z, upd_same] at he'; cases he'
          rw [upd_ne hel] at he'
          have eH : H e' = none := k5.free he'
          refine ⟨_, rfl, ln, CL, dx, _, rfl, (by rw [upd_ne (Ne.symm hel), upd_same]), T.cl, T.nE, (by show 3 < 1000; decide), ?_⟩
          refine ⟨_, rfl, _, rfl, ln, CL, dx, _, rfl, upd_same, T.cl, T.nN, (by show 3 < 1000; decide), ?_⟩
          have fine := names_fine e
          have n5 : H5 nn = some (.lst (texts (Co01.once (Co01.names ag)))) := k45 _ _ (by rw [upd_ne (fun z => by rw [z, hpm] at hnl; cases hnl)]; exact hnl)
          have hnl' : nn ≠ ln := fun z => by rw [z] at n5; rw [L5.obj] at n5; cases n5
          have hne' : nn ≠ e' := fun z => by rw [z] at n5; rw [he'] at n5; cases n5
          have kc : Chg [ln] H5 (L2.upd (L2.upd (L2.upd (L2.upd H5 ln (.ins CL dx (putF "now" (.ref o) [("now", nw), ("earlier", .ref er), ("names", .ref nm)]))) e' (.lst [])) ln (.ins CL dx (putF "earlier" (.ref e') (putF "now" (.ref o) [("now", nw), ("earlier", .ref er), ("names", .ref nm)])))) ln
              (.ins CL dx (putF "names" (.ref nn) (putF "earlier" (.ref e') (putF "now" (.ref o) [("now", nw), ("earlier", .ref er), ("names", .ref nm)]))))) := ((((Chg.refl _ _).upd (by simp) _).new he' _).upd (by simp) _).upd (by simp) _
          refine ⟨_, rfl, nn, Co01.once (Co01.names ag), rfl, kc.2 _ _ n5 (by simp [hnl']), by omega, fun b hb => by have := (fine b hb).2; omega, fun H7 r k7 hr7 an => ?_⟩
          have mu : Mut [ln] H5 := fun a ha => L5.mut a (by simp at ha ⊢; simp [ha])
          have kf : Chg [ln] H5 H7 := kc.trans (Bd.Same.chg k7 _)
          have kH : Chg [ln, er] H H7 := (Bd.Same.chg k5 _).trans (kf.more (by simp))
          have std : StdAt CS H5 [ln, er, tl] o ⟨Co01.once (Co01.names ag), ag, d, none, []⟩ := std_made (n := ⟨Co01.once (Co01.names ag), ag, d, none, []⟩) oo (agp.keeps (Bd.Same.tk (k3.trans (Same.trans (same_new (Same.refl H3) hpm _) k45)))) rfl ⟨[], k45 _ _ upd_same, .nil⟩ (L.old oH) (L.old pmH)
          refine q H7 e' r kH (.inr eH) ⟨dx, nn, .ref o, [], Co01.once (Co01.names ag),
            { obj := k7 _ _ (upd_same.trans ?_)
              now := ⟨o, rfl, std.keeps kf mu (by simp) fun b hb => ?_⟩
              lst := k7 _ _ ?_
              past := ⟨rfl, fun i x n h => by simp at h⟩
              nmE := hne'
              nmT := fun z => by obtain ⟨l, h⟩ := L.tl; rw [← z, nH] at h; cases h
              nms := kf.2 _ _ n5 (by simp [hnl'])
              same := fun n h => by cases h; rfl
              erT := fun z => by obtain ⟨l, h⟩ := L.tl; rw [← z, eH] at h; cases h
              tl := ?_ }⟩ (k5.free (kc.1 _ hr7)) an
          · congr 1
          · simp only [List.mem_cons, List.not_mem_nil, or_false] at hb
            rcases hb with h | h | h
            · exact .inl (by simp [h])
            · exact .inr (by rw [h]; exact he')
            · exact .inl (by simp [h])
          · rw [upd_ne hel, upd_ne hel, upd_same]; rfl
          · obtain ⟨l, h⟩ := L5.tl
            exact ⟨l, kf.2 _ _ h (by simp [Ne.symm L.ln_tl])⟩
end
end Bd
end
section
set_option Elab.async false
set_option linter.all false
set_option maxRecDepth 100000
set_option maxHeartbeats 4000000
set_option autoImplicit false
namespace Bd
open PySem PySem.Spec PyProof.Rows L2
/-! ## rows told one behind the other, by their places -/
theorem drop_cons {L : List Int} {p : Nat} {z : Int} {r : List Int} (h : L.drop p = z :: r) : L[p]? = some z ∧ r = L.drop (p + 1) ∧ p + 1 ≤ L.length := by
  have h1 : (L.drop p)[0]? = some z := by rw [h]; rfl
  rw [List.getElem?_drop, Nat.add_zero] at h1
  refine ⟨h1, ?_, (List.getElem?_eq_some_iff.mp h1).1⟩
  have := congrArg List.tail h
  rw [List.tail_drop] at this
  exact this.symm
theorem row_at {L : List Int} {p : Nat} {x t : List Int} (h : PyFlat.row (L.drop p) = some (x, t)) : ∃ n : Nat, L[p]? = some (n : Int) ∧ p + 1 + n ≤ L.length ∧ x = (L.drop (p + 1)).take n ∧ t = L.drop (p + 1 + n) := by
  cases e : L.drop p with
  | nil => rw [e] at h; cases h
  | cons z r =>
    rw [e] at h
    obtain ⟨e1, e2, e3⟩ := drop_cons e
    unfold PyFlat.row at h
    dsimp only at h
    split at h
    · rename_i c
      cases h
      refine ⟨z.toNat, by rw [e1, Int.toNat_of_nonneg c.1], ?_, by rw [e2], by rw [e2, List.drop_drop]⟩
      have := c.2
      rw [e2, List.length_drop] at this
      omega
    · cases h
theorem rows_at {L : List Int} : ∀ {k p : Nat} {xs : List (List Int)} {u : List Int}, PyFlat.rows k (L.drop p) = some (xs, u) → xs.length = k ∧ (k = 0 → u = L.drop p) ∧ ∀ j, k = j + 1 → ∃ (n : Nat) (x : List Int) (ys : List (List Int)), L[p]? = some (n : Int) ∧ p + 1 + n ≤ L.length ∧ x = (L.drop (p + 1)).take n ∧ xs = x :: ys ∧ PyFlat.rows j (L.drop (p + 1 + n)) = some (ys, u)
  | 0, p, xs, u, h => by cases h; exact ⟨rfl, fun _ => rfl, fun j h => nomatch h⟩
  | k + 1, p, xs, u, h => by
    unfold PyFlat.rows at h
    cases e : PyFlat.row (L.drop p) with
    | none => rw [e] at h; cases h
    | some y =>
      obtain ⟨x, s⟩ := y
      rw [e] at h
      obtain ⟨n, e1, e2, e3, rfl⟩ := row_at e
      dsimp only at h
      cases e' : PyFlat.rows k (L.drop (p + 1 + n)) with
      | none => rw [e'] at h; cases h
      | some y =>
        obtain ⟨ys, t⟩ := y
        rw [e'] at h
        cases h
        have ih := (rows_at e').1
        refine ⟨by simp [ih], fun h => absurd h (by omega), fun j hj => ?_⟩
        obtain rfl : k = j := by omega
        exact ⟨n, x, ys, e1, e2, e3, rfl, e'⟩
/-- a call at place p, by places -/
theorem call_at {L : List Int} {p : Nat} {c : List (List Int)} {u : List Int} (h : PyWide.call (L.drop p) = some (c, u)) : ∃ (q : Int) (n k b : Nat) (xs : List (List Int)), L[p]? = some q ∧ L[p + 1]? = some (n : Int) ∧ p + 1 + 1 + n ≤ L.length ∧ b = p + 1 + 1 + n ∧ L[b]? = some (k : Int) ∧
    PyFlat.rows k (L.drop (b + 1)) = some (xs, u) ∧ c = (q :: (L.drop (p + 2)).take n) :: xs := by
  cases e : L.drop p with
  | nil => rw [e] at h; cases h
  | cons z r =>
    rw [e] at h
    obtain ⟨e1, e2, e3⟩ := drop_cons e
    unfold PyWide.call at h
    dsimp only at h
    cases er : PyFlat.row r with
    | none => rw [er] at h; cases h
    | some y =>
      obtain ⟨ns, t⟩ := y
      rw [er] at h
      rw [e2] at er
      obtain ⟨n, f1, f2, f3, f4⟩ := row_at er
      cases t with
      | nil => cases h
      | cons k t =>
        obtain ⟨g1, g2, g3⟩ := drop_cons f4.symm
        dsimp only at h
        split at h
        · rename_i ck
          cases ew : PyFlat.rows k.toNat t with
          | none => rw [ew] at h; cases h
          | some y =>
            obtain ⟨xs, u'⟩ := y
            rw [ew] at h
            cases h
            exact ⟨z, n, k.toNat, _, xs, e1, f1, f2, rfl, by rw [g1, Int.toNat_of_nonneg ck], by rw [← g2]; exact ew, by rw [f3]⟩
        · cases h
section
variable {P : Program} {w : World} {K : PySem.W.Frag} {mg : Str → Option Value} {base : Heap} {f : Addr} {fd : FuncData}
def intsV (l : List Int) : List V := l.map V.int
/-! ## counted -/
abbrev sCounted : Stmt := top 91
def spCounted (K : PySem.W.Frag) : Sp := fun vs H Q _ => ∃ (c : Addr) (L : List Int) (p n : Nat), vs = [.ref c, .int p] ∧ SqL K H c (intsV L) ∧ L[p]? = some (n : Int) ∧ p + 1 + n ≤ L.length ∧
  ∀ (H' : Hp) (t r : Addr), Same H H' → H r = none → H' r = some (.lst (intsV ((L.drop (p + 1)).take n))) → H' t = some (.tup [.ref r, .int ((p + 1 + n : Nat) : Int)]) → Q (.ref t) H'
theorem scCounted : FnScope ["calls", "place", "behind"] ["calls", "place"] (defScope sCounted) := ⟨rfl, rfl, rfl, by decide +kernel, rfl, by decide +kernel, by decide +kernel⟩
theorem cut_ints (L : List Int) {p q : Nat} (h : p ≤ q) (hq : q ≤ L.length) : cutV (intsV L) (some (p : Int)) (some (q : Int)) = intsV ((L.drop p).take (q - p)) := by
  unfold cutV
  rw [HT.sIx_nat, HT.sIx_nat, show (intsV L).length = L.length by simp [intsV], Nat.min_eq_left hq, Nat.min_eq_left (Nat.le_trans h hq)]
  simp [intsV, List.map_take, List.map_drop]
theorem ok_counted (F : FnP K "counted" sCounted f fd) : FnOk P w K mg base CX0 1 f fd ["calls", "place"] (spCounted K) := by
  refine F.ok scCounted (fun vs H Q E h => ?_) (fun cdv A outer s H vs Q E hr h => ⟨_, (pss_cons (ps_set (i := 2) scCounted.nd rfl (.inl rfl) (pe_op op_add (pe_op op_add (pv 1) pe_int) (pe_ix ix_list (pv 0) (pv 1) (fun _ _ => rfl))))
    (pss_one (ps_ret (pe_tup (pa_cons (pe_slice sl_list (pv 0) (po_some (pe_op op_add (pv 1) pe_int)) (po_some (pv 2))) (pa_cons (pv 2) pa_nil)))))), ?_⟩)
  · obtain ⟨c, L, p, n, rfl, _⟩ := h
    rfl
  · obtain ⟨c, L, p, n, rfl, hc, hp, hn, q⟩ := h
    refine ⟨_, rfl, _, _, rfl, rfl, _, rfl, _, rfl, c, intsV L, _, .int (n : Int), rfl, rfl, hc, atI_nat (by simp [intsV, hp]), _, _, rfl, rfl, ?_⟩
    refine ⟨_, rfl, _, rfl, _, _, rfl, rfl, _, rfl, _, rfl, _, rfl, c, _, rfl, hc, fun r hr1 => ⟨_, rfl, (by show 2 ≤ sizeLine; decide), fun t ht => ?_⟩⟩
    have e1 : (p : Int) + 1 = ((p + 1 : Nat) : Int) := by omega
    have e2 : (p : Int) + 1 + (n : Int) = ((p + 1 + n : Nat) : Int) := by omega
    have rt : r ≠ t := fun z => by rw [← z, upd_same] at ht; cases ht
    refine q _ t r (same_new (same_new (Same.refl H) hr1 _) ht _) hr1 ?_ ?_
    · rw [upd_ne rt, upd_same]
      show some (HO.lst (cutV (intsV L) (some ((p : Int) + 1)) (some ((p : Int) + 1 + (n : Int))))) = _
      rw [e2, e1, cut_ints L (by omega) hn, show p + 1 + n - (p + 1) = n by omega]
    · rw [upd_same, ← e2]
end
end Bd
end
section
set_option Elab.async false
set_option linter.all false
set_option maxRecDepth 100000
set_option maxHeartbeats 4000000
set_option autoImplicit false
namespace Bd
open PySem PySem.Spec PyProof.Rows L2
/-- lists that hold these rows -/
def RowsL (H : Hp) (as : List Addr) (xs : List (List Int)) : Prop := as.length = xs.length ∧ ∀ (i : Nat) (a : Addr) (x : List Int), as[i]? = some a → xs[i]? = some x → H a = some (.lst (intsV x))
theorem RowsL.snoc {H H' : Hp} {as : List Addr} {xs : List (List Int)} (h : RowsL H as xs) (k : ∀ a ∈ as, ∀ x, H a = some x → H' a = some x) {a : Addr} {x : List Int} (ha : H' a = some (.lst (intsV x))) : RowsL H' (as ++ [a]) (xs ++ [x]) := by
  refine ⟨by simp [h.1], fun i b y e1 e2 => ?_⟩
  have hl := h.1
  by_cases c : i < as.length
  · rw [List.getElem?_append_left c] at e1
    rw [List.getElem?_append_left (by omega)] at e2
    exact k b (List.mem_of_getElem? e1) _ (h.2 i b y e1 e2)
  · rw [List.getElem?_append_right (by omega)] at e1
    rw [List.getElem?_append_right (by omega)] at e2
    have : i - as.length = 0 := by
      have := (List.getElem?_eq_some_iff.mp e1).1
      simp at this; omega
    rw [this] at e1
    rw [← hl, this] at e2
    cases e1; cases e2
    exact ha
theorem RowsL.keeps {H H' : Hp} {as : List Addr} {xs : List (List Int)} (h : RowsL H as xs) (k : Same H H') : RowsL H' as xs := ⟨h.1, fun i a x e1 e2 => k _ _ (h.2 i a x e1 e2)⟩
section
variable {P : Program} {w : World} {K : PySem.W.Frag} {mg : Str → Option Value} {base : Heap} {f : Addr} {fd : FuncData}
/-! ## handed_over -/
abbrev sHand : Stmt := top 90
def spHand (K : PySem.W.Frag) : Sp := fun vs H Q _ => ∃ (c : Addr) (L : List Int) (p : Nat) (q : Int) (ns : List Int) (xs : List (List Int)) (u : List Int), vs = [.ref c, .int p] ∧ SqL K H c (intsV L) ∧ PyWide.call (L.drop p) = some ((q :: ns) :: xs, u) ∧ xs.length ≤ 1000 ∧
  ∀ (H' : Hp) (t a b : Addr) (as : List Addr) (e : Nat), Same H H' → H' t = some (.tup [.ref a, .ref b, .int e]) → H' a = some (.lst (intsV ns)) → H' b = some (.lst (as.map V.ref)) → RowsL H' as xs → u = L.drop e → p < e → e ≤ L.length → L[p]? = some q → Q (.ref t) H'
theorem scHand : FnScope ["calls", "place", "numbers", "behind", "lists", "list_count", "turn", "one_list"] ["calls", "place"] (defScope sHand) := ⟨rfl, rfl, rfl, by decide +kernel, rfl, by decide +kernel, by decide +kernel⟩
theorem ok_hand {f1 : Addr} {fd1 : FuncData} (F : FnP K "handed_over" sHand f fd) (gR : mg "range" = none)
    (F1 : FnP K "counted" sCounted f1 fd1) (m1 : mg "counted" = some (.ref f1)) (G1 : FnOk P w K mg base CX0 1 f1 fd1 ["calls", "place"] (spCounted K)) :
    FnOk P w K mg base CX0 2 f fd ["calls", "place"] (spHand K) := by
  have b1 : Binds K fd1 ["calls", "place"] [] := F1.binds fun _ _ _ _ _ _ us hl => match us, hl with | [_, _], _ => rfl
  refine F.ok scHand (fun vs H Q E h => ?_) (fun cdv A outer s H vs Q E hr h => ⟨_, (pss_cons (ps_asg (pe_call G1 hr rfl m1 F1.kp b1 .nil pass0 (pa_cons (pv 0) (pa_cons (pe_op op_add (pv 1) pe_int) pa_nil))) (pg_tup rfl (pgs_cons (pg_name (i := 2) scHand.nd rfl (.inl rfl)) (pgs_cons (pg_name (i := 3) scHand.nd rfl (.inl rfl)) pgs_nil))))
    (pss_cons (ps_set (i := 4) scHand.nd rfl (.inl rfl) (pe_lst pa_nil))
    (pss_cons (ps_set (i := 5) scHand.nd rfl (.inl rfl) (pe_ix ix_list (pv 0) (pv 3) (fun _ _ => rfl)))
    (pss_cons (ps_aug (i := 3) scHand.nd rfl (.inl rfl) pe_int ip_add)
    (pss_cons (ps_for PassesOwn.never rfl (pi_range1 rfl gR (pa_cons (pv 5) pa_nil)) (pg_name (i := 6) scHand.nd rfl (.inl rfl))
      (pss_cons (ps_asg (pe_call G1 hr rfl m1 F1.kp b1 .nil pass0 (pa_cons (pv 0) (pa_cons (pv 3) pa_nil))) (pg_tup rfl (pgs_cons (pg_name (i := 7) scHand.nd rfl (.inl rfl)) (pgs_cons (pg_name (i := 3) scHand.nd rfl (.inl rfl)) pgs_nil))))
      (pss_one (ps_expr (pe_bm PySem.F.plainAttrs_list PySem.F.slot_list_append PySem.F.type_list_append mt_append (pv 4) (pa_cons (pv 7) pa_nil))))))
    (pss_one (ps_ret (pe_tup (pa_cons (pv 2) (pa_cons (pv 4) (pa_cons (pv 3) pa_nil))))))))))), ?_⟩)
  · obtain ⟨c, L, p, q, ns, xs, u, rfl, _⟩ := h
    rfl
  · obtain ⟨c, L, p, q, ns, xs, u, rfl, hc, hcall, hx, qq⟩ := h
    obtain ⟨q', n, k, b, xs', h1, h2, h3, rfl, h5, h6, h7⟩ := call_at hcall
    cases h7
    have lk := (rows_at h6).1
    have hb := (List.getElem?_eq_some_iff.mp h5).1
    refine ⟨_, rfl, _, rfl, _, _, rfl, rfl, c, L, p + 1, n, (by show [V.ref c, V.int ((p : Int) + 1)] = _; rfl), hc, h2, h3, fun H1 t r k1 hr1 er et => ?_⟩
    refine ⟨t, _, rfl, .inl (.inl et), rfl, _, _, rfl, _, _, rfl, rfl, ?_⟩
    refine ⟨by decide, fun l hl => ?_⟩
    have k2 := same_new k1 hl (.lst [])
    have hc2 : SqL K (L2.upd H1 l (.lst [])) c (intsV L) := hc.ext k2
    refine ⟨_, rfl, _, rfl, c, intsV L, _, .int (k : Int), rfl, rfl, hc2, atI_nat (by simp [intsV, h5]), ?_⟩
    refine ⟨_, rfl, _, _, rfl, rfl, ?_⟩
    have lH : H l = none := k1.free hl
    have rl : r ≠ l := fun z => by rw [z, hl] at er; cases er
    refine ⟨_, rfl, (k : Int), rfl, by omega, by omega, for_range (lo := 0) (n := k) (fun i σ H2 => ∃ (o6 o7 : Option V) (bb : Nat) (as : List Addr), σ = [some (.ref c), some (.int p), some (.ref r), some (.int bb), some (.ref l), some (.int (k : Int)), o6, o7] ∧ Same H H2 ∧ H2 r = some (.lst (intsV ((L.drop (p + 2)).take n))) ∧
        H2 l = some (.lst (as.map V.ref)) ∧ RowsL H2 as (xs.take i) ∧ l ∉ as ∧ PyFlat.rows (k - i) (L.drop bb) = some (xs.drop i, u) ∧ p < bb ∧ bb ≤ L.length)
      ⟨none, none, p + 1 + 1 + n + 1, [], rfl, k2, by rw [upd_ne rl]; exact er, upd_same, ⟨rfl, fun i a x e => by simp at e⟩, by simp, h6, by omega, by omega⟩ (fun i σ H2 hi h => ?_) (fun σ H2 h => ?_)⟩
    · obtain ⟨o6, o7, bb, as, rfl, ks, hr2, hl2, rows, nl, hw, hp, hbb⟩ := h
      obtain ⟨m, x, ys, g1, g2, g3, g4, g5⟩ := (rows_at hw).2.2 (k - i - 1) (by omega)
      have hxi : xs[i]? = some x := by
        have : (xs.drop i)[0]? = some x := by rw [g4]; rfl
        rw [List.getElem?_drop, Nat.add_zero] at this
        exact this
      refine ⟨_, rfl, _, rfl, c, L, bb, m, rfl, hc.ext ks, g1, g2, fun H3 t3 r3 k3 hr3 er3 et3 => ?_⟩
      refine ⟨t3, _, rfl, .inl (.inl et3), rfl, _, _, rfl, _, _, rfl, rfl, ?_⟩
      have hl3 := k3 _ _ hl2
      have r3l : r3 ≠ l := fun z => by rw [z, hl2] at hr3; cases hr3
      have rr3 : r ≠ l := rl
      refine ⟨_, rfl, .inl ⟨rfl, _, .inl (.inl hl3)⟩, _, rfl, l, _, _, rfl, rfl, hl3, ?_, some (.int (0 + (i : Int))), some (.ref r3), bb + 1 + m, as ++ [r3], rfl, ?_, ?_, ?_, ?_, ?_, ?_, by omega, g2⟩
      · rw [List.length_map, rows.1, List.length_take]
        exact small1000 (by omega)
      · intro b x e
        rw [upd_ne (fun z => by rw [z, lH] at e; cases e)]
        exact k3 _ _ (ks _ _ e)
      · rw [upd_ne rl]; exact k3 _ _ hr2
      · rw [upd_same, List.map_append]; rfl
      · rw [List.take_add_one, hxi]
        refine rows.snoc (fun a ha y e => ?_) (by rw [upd_ne r3l, er3, g3])
        rw [upd_ne (fun z => nl (by rw [← z]; exact ha))]
        exact k3 _ _ e
      · intro hm
        rcases List.mem_append.mp hm with hm | hm
        · exact nl hm
        · rw [List.mem_singleton] at hm; exact r3l hm.symm
      · rw [show k - (i + 1) = k - i - 1 by omega, g5]
        have : xs.drop (i + 1) = ys := by
          have := congrArg List.tail g4
          rw [List.tail_drop] at this
          exact this
        rw [this]
    · obtain ⟨o6, o7, bb, as, rfl, ks, hr2, hl2, rows, nl, hw, hp, hbb⟩ := h
      rw [Nat.sub_self] at hw
      have eu := (rows_at hw).2.1 rfl
      rw [← lk, List.take_length] at rows
      refine ⟨_, rfl, _, rfl, _, rfl, (by show 3 ≤ sizeLine; decide), fun t3 ht3 => ?_⟩
      have k3 := same_new (Same.refl H2) ht3 (.tup [.ref r, .ref l, .int (bb : Int)])
      exact qq _ t3 r l as bb (ks.trans k3) upd_same (k3 _ _ hr2) (k3 _ _ hl2) (rows.keeps k3) eu hp hbb h1
end
end Bd
end
section
set_option Elab.async false
set_option linter.all false
set_option maxRecDepth 100000
set_option maxHeartbeats 4000000
set_option autoImplicit false
namespace Bd
open PySem PySem.Spec PyProof.Rows L2
/-- the calls, one by one -/
theorem call_cases {q : Int} {ns : List Int} {xs : List (List Int)} {x : Co01.Call} (h : Co01Neutral.callOf ((q :: ns) :: xs) = some x) :
    (q = 0 ∧ ∃ d t, ns = [d] ∧ xs = [t] ∧ 0 ≤ d ∧ t.length ≤ 200 ∧ (∀ z ∈ t, 0 ≤ z) ∧ x = .open_ (t.map Int.toNat) d.toNat) ∨ (q = 1 ∧ x = .day ns ∧ ∀ z ∈ ns, z.natAbs ≤ 1000000) ∨ (q = 2 ∧ x = .waits) ∨
    (q = 3 ∧ ∃ i w, ns = [i, w] ∧ 0 ≤ i ∧ 0 ≤ w ∧ x = .choose i.toNat w.toNat) ∨ (q = 4 ∧ ∃ i, ns = [i] ∧ 0 ≤ i ∧ x = .begin_ i.toNat) ∨ (q = 5 ∧ x = .left) ∨ (q = 6 ∧ x = .paid) ∨ (q = 7 ∧ x = .undo) := by
  unfold Co01Neutral.callOf at h
  split at h
  · rename_i hn
    have hnum : ∀ z ∈ ns, Co01Neutral.number z = true := fun z hz => List.all_eq_true.mp hn z (List.mem_cons_of_mem _ hz)
    unfold Co01Neutral.callIn at h
    split at h
    · rename_i k t e
      simp only [List.cons.injEq] at e
      obtain ⟨⟨rfl, rfl⟩, rfl⟩ := e
      split at h
      · rename_i hk
        unfold Co01Neutral.text at h
        split at h
        · rename_i ht
          cases h
          refine .inl ⟨rfl, k, t, rfl, rfl, hk, ht.1, fun z hz => ?_, rfl⟩
          have := List.all_eq_true.mp ht.2 z hz
          simp at this
          exact this.1
        · cases h
      · cases h
    · rename_i v e
      simp only [List.cons.injEq] at e
      obtain ⟨⟨rfl, rfl⟩, _⟩ := e
      split at h
      · cases h
        refine .inr (.inl ⟨rfl, rfl, fun z hz => ?_⟩)
        have := hnum z hz
        simp [Co01Neutral.number] at this
        omega
      · cases h
    · rename_i e
      simp only [List.cons.injEq] at e
      cases h
      exact .inr (.inr (.inl ⟨e.1.1, rfl⟩))
    · rename_i i w e
      simp only [List.cons.injEq] at e
      obtain ⟨⟨rfl, rfl⟩, _⟩ := e
      split at h
      · rename_i hk
        cases h
        exact .inr (.inr (.inr (.inl ⟨rfl, i, w, rfl, hk.1, hk.2, rfl⟩)))
      · cases h
    · rename_i i e
      simp only [List.cons.injEq] at e
      obtain ⟨⟨rfl, rfl⟩, _⟩ := e
      split at h
      · rename_i hk
        cases h
        exact .inr (.inr (.inr (.inr (.inl ⟨rfl, i, rfl, hk, rfl⟩))))
      · cases h
    · rename_i e
      simp only [List.cons.injEq] at e
      cases h
      exact .inr (.inr (.inr (.inr (.inr (.inl ⟨e.1.1, rfl⟩)))))
    · rename_i e
      simp only [List.cons.injEq] at e
      cases h
      exact .inr (.inr (.inr (.inr (.inr (.inr (.inl ⟨e.1.1, rfl⟩))))))
    · rename_i e
      simp only [List.cons.injEq] at e
      cases h
      exact .inr (.inr (.inr (.inr (.inr (.inr (.inr ⟨e.1.1, rfl⟩))))))
    · cases h
  · cases h
/-- what a call keeps true -/
theorem stok_step {k : Nat} {s : Co01.St} {c : List (List Int)} {x : Co01.Call} (ok : StOk k s) (h : Co01Neutral.callOf c = some x) : StOk (k + 1) (Co01.step s x).1 := by
  obtain ⟨q, ns, xs, rfl⟩ : ∃ q ns xs, c = (q :: ns) :: xs := by
    unfold Co01Neutral.callOf at h
    split at h
    · match c, h with
      | (q :: ns) :: xs, _ => exact ⟨q, ns, xs, rfl⟩
    · cases h
  have same : StOk (k + 1) s := ok.mono (Nat.le_succ _)
  have dec : ∀ (m i : Nat) (w : Bool), StOk (k + 1) (Co01.deciding s m i w).1 := fun m i w => by
    cases e : s.now with
    | none => unfold Co01.deciding; rw [e]; exact same
    | some n =>
      cases e2 : n.last with
      | none => unfold Co01.deciding; rw [e]; dsimp only; rw [e2]; exact same
      | some v =>
        cases e3 : (Co01.waits false n.left)[i]? with
        | none => unfold Co01.deciding; rw [e]; dsimp only; rw [e2]; dsimp only; rw [e3]; exact same
        | some y =>
          obtain ⟨kd, sd⟩ := y
          by_cases hk : kd = m
          · subst hk
            rw [deciding_eq w (ok.now n e) e e2 e3]
            exact same.goOn e ((nowok_settled (ok.now n e) e2).mono (Nat.le_succ _)) rfl
          · unfold Co01.deciding; rw [e]; dsimp only; rw [e2]; dsimp only; rw [e3]; dsimp only; rw [if_pos hk]; exact same
  rcases call_cases h with ⟨_, d, t, _, _, _, ht, _, rfl⟩ | ⟨_, rfl, hv⟩ | ⟨_, rfl⟩ | ⟨_, i, w, _, _, _, rfl⟩ | ⟨_, i, _, _, rfl⟩ | ⟨_, rfl⟩ | ⟨_, rfl⟩ | ⟨_, rfl⟩
  · cases e : Co01.readText (t.map Int.toNat) with
    | error p =>
      have : (Co01.step s (.open_ (t.map Int.toNat) d.toNat)).1 = s := by simp only [Co01.step, e]
      rw [this]; exact same
    | ok a =>
      by_cases c : Co01.NAMES < (Co01.once (Co01.names a)).length
      · have : (Co01.step s (.open_ (t.map Int.toNat) d.toNat)).1 = s := by simp only [Co01.step, e, if_pos c]
        rw [this]; exact same
      · have : (Co01.step s (.open_ (t.map Int.toNat) d.toNat)).1 = ⟨some ⟨Co01.once (Co01.names a), a, d.toNat, none, []⟩, []⟩ := by simp only [Co01.step, e, if_neg c]
        rw [this]
        have nk := (nowok_open (d := d.toNat) e (by rw [List.length_map]; exact ht) (Nat.not_lt.mp c)).mono (Nat.zero_le (k + 1))
        exact ⟨fun n h => by cases h; exact nk, fun n h => (nomatch h), Nat.zero_le _, fun n h m hm => (nomatch hm), fun h => nomatch h⟩
  · cases e : s.now with
    | none =>
      have : (Co01.step s (.day ns)).1 = s := by simp only [Co01.step, e]
      rw [this]; exact same
    | some n =>
      by_cases c1 : ns.length ≠ n.names.length
      · have : (Co01.step s (.day ns)).1 = s := by simp only [Co01.step, e, if_pos c1]
        rw [this]; exact same
      · by_cases c2 : n.last.isSome = true ∧ Co01.mustChoose n.left = true
        · have : (Co01.step s (.day ns)).1 = s := by simp only [Co01.step, e, if_neg c1, if_pos c2]
          rw [this]; exact same
        · have : (Co01.step s (.day ns)).1 = goOn s n (dayNow n ns) := by simp only [Co01.step, e, if_neg c1, if_neg c2]; rfl
          rw [this]
          exact same.goOn e (nowok_day (ok.now n e) hv) rfl
  · exact same
  · show StOk (k + 1) (if 1 < w.toNat then (s, [-1]) else Co01.deciding s 0 i.toNat (w.toNat == 1)).1
    split
    · exact same
    · exact dec _ _ _
  · exact dec _ _ _
  · exact same
  · exact same
  · show StOk (k + 1) (match s.past with | [] => (s, [-7]) | n :: l => (⟨some n, l⟩, [(l.length : Int)])).1
    cases e : s.past with
    | nil => exact same
    | cons n l =>
      have hp := same.past
      rw [e] at hp
      refine ⟨fun m h => by cases h; exact hp n (by simp), fun m h => hp m (by simp [h]), ?_, fun m h y hy => ?_, fun h => nomatch h⟩
      · have := ok.len; rw [e] at this; simp at this; show l.length ≤ 32; omega
      · cases h
        cases eo : s.now with
        | none => have := ok.none eo; rw [e] at this; cases this
        | some c =>
          have h1 := ok.names c eo y (by rw [e]; simp [hy])
          have h2 := ok.names c eo n (by rw [e]; simp)
          rw [h1, h2]
/-- a statement that is never come to -/
theorem ps_no {X : Cx} {st : Stmt} : PS X st (fun _ _ _ => False) := ⟨fun _ _ _ _ _ _ h => h.elim⟩
section
variable {P : Program} {w : World} {K : PySem.W.Frag} {mg : Str → Option Value} {base : Heap} {f : Addr} {fd : FuncData} {CS CL : Addr}
/-! ## answer_to -/
abbrev sAnsTo : Stmt := top 92
def spAnsTo (CS CL : Addr) : Sp := fun vs H Q _ => ∃ (ln er tl a b : Addr) (q : Int) (ns : List Int) (xs : List (List Int)) (as : List Addr) (x : Co01.Call) (s : Co01.St) (k : Nat), vs = [.ref ln, .int q, .ref a, .ref b] ∧ LnAt CS CL H ln er tl s ∧ StOk k s ∧ k ≤ 100 ∧
  H a = some (.lst (intsV ns)) ∧ H b = some (.lst (as.map V.ref)) ∧ RowsL H as xs ∧ Co01Neutral.callOf ((q :: ns) :: xs) = some x ∧ After CS CL ln er tl H Q (Co01.step s x)
theorem scAnsTo : FnScope ["line", "call", "numbers", "lists"] ["line", "call", "numbers", "lists"] (defScope sAnsTo) := ⟨rfl, rfl, rfl, by decide +kernel, rfl, by decide +kernel, by decide +kernel⟩
theorem ok_ansTo {f0 f1 f2 f3 f4 f5 f6 f7 : Addr} {fd0 fd1 fd2 fd3 fd4 fd5 fd6 fd7 : FuncData} (F : FnP K "answer_to" sAnsTo f fd) (T : LineTxt K CL)
    (g0 : IntG mg "OPEN_CALL" 0) (g1 : IntG mg "DAY_CALL" 1) (g2 : IntG mg "WAITS_CALL" 2) (g3 : IntG mg "CHOOSE_CALL" 3) (g4 : IntG mg "BEGIN_CALL" 4) (g5 : IntG mg "LEFT_CALL" 5) (g6 : IntG mg "PAID_CALL" 6) (g7 : IntG mg "UNDO_CALL" 7)
    (F0 : L2.Fun K "take_up" "Line.take_up" sTake f0 fd0) (m0 : Meth K CL "take_up" f0) (G0 : FnOk P w K mg base CX0 5 f0 fd0 ["self", "day", "text"] (spTake CS CL))
    (F1 : L2.Fun K "start_day" "Line.start_day" sDay f1 fd1) (m1 : Meth K CL "start_day" f1) (G1 : FnOk P w K mg base CX0 6 f1 fd1 ["self", "numbers"] (spDay CS CL))
    (F2 : L2.Fun K "waits" "Line.waits" sWaits f2 fd2) (m2 : Meth K CL "waits" f2) (G2 : FnOk P w K mg base CX0 4 f2 fd2 ["self"] (spWaits CS CL))
    (F3 : L2.Fun K "choose" "Line.choose" sChoose f3 fd3) (m3 : Meth K CL "choose" f3) (G3 : FnOk P w K mg base CX0 7 f3 fd3 ["self", "number", "which"] (spChoose CS CL))
    (F4 : L2.Fun K "begin" "Line.begin" sBegin f4 fd4) (m4 : Meth K CL "begin" f4) (G4 : FnOk P w K mg base CX0 7 f4 fd4 ["self", "number"] (spBegin CS CL))
    (F5 : L2.Fun K "tell_left" "Line.tell_left" sLeft f5 fd5) (m5 : Meth K CL "tell_left" f5) (G5 : FnOk P w K mg base CX0 8 f5 fd5 ["self"] (spLeft CS CL))
    (F6 : L2.Fun K "tell_paid" "Line.tell_paid" sPaid f6 fd6) (m6 : Meth K CL "tell_paid" f6) (G6 : FnOk P w K mg base CX0 2 f6 fd6 ["self"] (spPaid CS CL))
    (F7 : L2.Fun K "undo" "Line.undo" sUndo f7 fd7) (m7 : Meth K CL "undo" f7) (G7 : FnOk P w K mg base CX0 2 f7 fd7 ["self"] (spUndo CS CL)) :
    FnOk P w K mg base CX0 9 f fd ["line", "call", "numbers", "lists"] (spAnsTo CS CL) := by
  have b0 : Binds K fd0 ["self", "day", "text"] [] := F0.binds fun _ _ _ _ _ _ us hl => match us, hl with | [_, _, _], _ => rfl
  have b1 : Binds K fd1 ["self", "numbers"] [] := F1.binds fun _ _ _ _ _ _ us hl => match us, hl with | [_, _], _ => rfl
  have b2 : Binds K fd2 ["self"] [] := F2.binds fun _ _ _ _ _ _ us hl => match us, hl with | [_], _ => rfl
  have b3 : Binds K fd3 ["self", "number", "which"] [] := F3.binds fun _ _ _ _ _ _ us hl => match us, hl with | [_, _, _], _ => rfl
  have b4 : Binds K fd4 ["self", "number"] [] := F4.binds fun _ _ _ _ _ _ us hl => match us, hl with | [_, _], _ => rfl
  have b5 : Binds K fd5 ["self"] [] := F5.binds fun _ _ _ _ _ _ us hl => match us, hl with | [_], _ => rfl
  have b6 : Binds K fd6 ["self"] [] := F6.binds fun _ _ _ _ _ _ us hl => match us, hl with | [_], _ => rfl
  have b7 : Binds K fd7 ["self"] [] := F7.binds fun _ _ _ _ _ _ us hl => match us, hl with | [_], _ => rfl
  refine F.ok scAnsTo (fun vs H Q E h => ?_) (fun cdv A outer s H vs Q E hr h => ⟨_,
    (pss_cons (ps_if (pt_cmpR op_eq (pv 1) (pe_gint g0) (nomark _)) (pss_one (ps_ret (pe_meth (pv 0) T.cl m0 (G0.mono (by decide)) hr b0 .nil pass0 (pa_cons (pe_ix ix_list (pv 2) pe_int (fun _ _ => rfl)) (pa_cons (pe_ix ix_list (pv 3) pe_int (fun _ _ => rfl)) pa_nil))))) pss_nil)
    (pss_cons (ps_if (pt_cmpR op_eq (pv 1) (pe_gint g1) (nomark _)) (pss_one (ps_ret (pe_meth (pv 0) T.cl m1 (G1.mono (by decide)) hr b1 .nil pass0 (pa_cons (pv 2) pa_nil)))) pss_nil)
    (pss_cons (ps_if (pt_cmpR op_eq (pv 1) (pe_gint g2) (nomark _)) (pss_one (ps_ret (pe_meth0 (pv 0) T.cl m2 (G2.mono (by decide)) hr b2 .nil pass0))) pss_nil)
    (pss_cons (ps_if (pt_cmpR op_eq (pv 1) (pe_gint g3) (nomark _)) (pss_one (ps_ret (pe_meth (pv 0) T.cl m3 (G3.mono (by decide)) hr b3 .nil pass0 (pa_cons (pe_ix ix_list (pv 2) pe_int (fun _ _ => rfl)) (pa_cons (pe_ix ix_list (pv 2) pe_int (fun _ _ => rfl)) pa_nil))))) pss_nil)
    (pss_cons (ps_if (pt_cmpR op_eq (pv 1) (pe_gint g4) (nomark _)) (pss_one (ps_ret (pe_meth (pv 0) T.cl m4 (G4.mono (by decide)) hr b4 .nil pass0 (pa_cons (pe_ix ix_list (pv 2) pe_int (fun _ _ => rfl)) pa_nil)))) pss_nil)
    (pss_cons (ps_if (pt_cmpR op_eq (pv 1) (pe_gint g5) (nomark _)) (pss_one (ps_ret (pe_meth0 (pv 0) T.cl m5 G5 hr b5 .nil pass0))) pss_nil)
    (pss_cons (ps_if (pt_cmpR op_eq (pv 1) (pe_gint g6) (nomark _)) (pss_one (ps_ret (pe_meth0 (pv 0) T.cl m6 (G6.mono (by decide)) hr b6 .nil pass0))) pss_nil)
    (pss_cons (ps_if (pt_cmpR op_eq (pv 1) (pe_gint g7) (nomark _)) (pss_one (ps_ret (pe_meth0 (pv 0) T.cl m7 (G7.mono (by decide)) hr b7 .nil pass0))) pss_nil)
    (pss_one ps_no))))))))), ?_⟩)
  · obtain ⟨ln, er, tl, a, b, q, ns, xs, as, x, s, k, rfl, _⟩ := h
    rfl
  · obtain ⟨ln, er, tl, a, b, q, ns, xs, as, x, s, k, rfl, L0, ok, hk, ha, hb, rows, hcall, qq⟩ := h
    obtain ⟨dx, nm, nw, ys, nz, L⟩ := id L0
    rcases call_cases hcall with ⟨rfl, d, t, rfl, rfl, hd, ht, hz, rfl⟩ | ⟨rfl, rfl, hv⟩ | ⟨rfl, rfl⟩ | ⟨rfl, i, j, rfl, hi, hj, rfl⟩ | ⟨rfl, i, rfl, hi, rfl⟩ | ⟨rfl, rfl⟩ | ⟨rfl, rfl⟩ | ⟨rfl, rfl⟩
    · obtain ⟨y, rfl⟩ : ∃ y, as = [y] := by
        have := rows.1
        match as, this with
        | [y], _ => exact ⟨y, rfl⟩
      have hy := rows.2 0 y t rfl rfl
      have ed : d = ((d.toNat : Nat) : Int) := (Int.toNat_of_nonneg hd).symm
      have et : intsV t = nats (t.map Int.toNat) := by
        unfold intsV nats
        rw [List.map_map]
        refine List.map_congr_left fun z hz' => ?_
        show V.int z = V.int ((z.toNat : Nat) : Int)
        rw [Int.toNat_of_nonneg (hz z hz')]
      refine ⟨_, rfl, rfl, _, rfl, ?_⟩
      refine ⟨_, rfl, ln, dx, _, rfl, L.obj, rfl, _, rfl, a, _, 0, .int d, rfl, rfl, .inl (.inl ha), rfl, _, rfl, b, _, 0, .ref y, rfl, rfl, .inl (.inl hb), rfl, ln, er, tl, y, s, k, d.toNat, t.map Int.toNat, ?_, L0, ok, ?_, ?_, qq⟩
      · show [V.ref ln, V.int d, V.ref y] = _
        rw [ed]; rfl
      · rw [hy, et]
      · rw [List.length_map]; exact ht
    · refine ⟨_, rfl, rfl, _, rfl, _, rfl, rfl, _, rfl, ?_⟩
      exact ⟨_, rfl, ln, dx, _, rfl, L.obj, rfl, _, rfl, ln, er, tl, a, s, k, ns, rfl, L0, ok, hk, ha, hv, qq⟩
    · refine ⟨_, rfl, rfl, _, rfl, _, rfl, rfl, _, rfl, _, rfl, rfl, _, rfl, ?_⟩
      exact ⟨_, rfl, ln, dx, _, rfl, L.obj, rfl, ln, er, tl, s, k, rfl, L0, ok, qq⟩
    · have ei : i = ((i.toNat : Nat) : Int) := (Int.toNat_of_nonneg hi).symm
      have ej : j = ((j.toNat : Nat) : Int) := (Int.toNat_of_nonneg hj).symm
      refine ⟨_, rfl, rfl, _, rfl, _, rfl, rfl, _, rfl, _, rfl, rfl, _, rfl, _, rfl, rfl, _, rfl, ?_⟩
      refine ⟨_, rfl, ln, dx, _, rfl, L.obj, rfl, _, rfl, a, _, 0, .int i, rfl, rfl, .inl (.inl ha), rfl, _, rfl, a, _, 1, .int j, rfl, rfl, .inl (.inl ha), rfl, ln, er, tl, s, k, i.toNat, j.toNat, ?_, L0, ok, hk, qq⟩
      show [V.ref ln, V.int i, V.int j] = _
      rw [← ei, ← ej]
    · have ei : i = ((i.toNat : Nat) : Int) := (Int.toNat_of_nonneg hi).symm
      refine ⟨_, rfl, rfl, _, rfl, _, rfl, rfl, _, rfl, _, rfl, rfl, _, rfl, _, rfl, rfl, _, rfl, _, rfl, rfl, _, rfl, ?_⟩
      refine ⟨_, rfl, ln, dx, _, rfl, L.obj, rfl, _, rfl, a, _, 0, .int i, rfl, rfl, .inl (.inl ha), rfl, ln, er, tl, s, k, i.toNat, ?_, L0, ok, hk, qq⟩
      show [V.ref ln, V.int i] = _
      rw [← ei]
    · refine ⟨_, rfl, rfl, _, rfl, _, rfl, rfl, _, rfl, _, rfl, rfl, _, rfl, _, rfl, rfl, _, rfl, _, rfl, rfl, _, rfl, _, rfl, rfl, _, rfl, ?_⟩
      exact ⟨_, rfl, ln, dx, _, rfl, L.obj, rfl, ln, er, tl, s, k, rfl, L0, ok, qq⟩
    · refine ⟨_, rfl, rfl, _, rfl, _, rfl, rfl, _, rfl, _, rfl, rfl, _, rfl, _, rfl, rfl, _, rfl, _, rfl, rfl, _, rfl, _, rfl, rfl, _, rfl, _, rfl, rfl, _, rfl, ?_⟩
      exact ⟨_, rfl, ln, dx, _, rfl, L.obj, rfl, ln, er, tl, s, k, rfl, L0, ok, hk, qq⟩
    · refine ⟨_, rfl, rfl, _, rfl, _, rfl, rfl, _, rfl, _, rfl, rfl, _, rfl, _, rfl, rfl, _, rfl, _, rfl, rfl, _, rfl, _, rfl, rfl, _, rfl, _, rfl, rfl, _, rfl, _, rfl, rfl, _, rfl, ?_⟩
      exact ⟨_, rfl, ln, dx, _, rfl, L.obj, rfl, ln, er, tl, s, k, rfl, L0, ok, qq⟩
end
end Bd
end
section
set_option Elab.async false
set_option linter.all false
set_option maxRecDepth 100000
set_option maxHeartbeats 4000000
set_option autoImplicit false
namespace Bd
open PySem PySem.Spec PyProof.Rows L2
theorem calls_more {f : Nat} {L : List Int} {p : Nat} {cs : List (List (List Int))} (h : PyWide.calls f (L.drop p) = some cs) (hp : p < L.length) : ∃ f' c u cs', PyWide.call (L.drop p) = some (c, u) ∧ PyWide.calls f' u = some cs' ∧ cs = c :: cs' := by
  have hd : L.drop p = L[p] :: L.drop (p + 1) := List.drop_eq_getElem_cons hp
  rw [hd] at h ⊢
  cases f with
  | zero => cases h
  | succ f =>
    have h : (match PyWide.call (L[p] :: L.drop (p + 1)) with
      | none => none
      | some (c, t) => match PyWide.calls f t with
        | none => none
        | some cs => some (c :: cs)) = some cs := h
    cases e : PyWide.call (L[p] :: L.drop (p + 1)) with
    | none => rw [e] at h; cases h
    | some y =>
      obtain ⟨c, t⟩ := y
      rw [e] at h
      dsimp only at h
      cases e' : PyWide.calls f t with
      | none => rw [e'] at h; cases h
      | some cs' =>
        rw [e'] at h
        cases h
        exact ⟨f, c, t, cs', rfl, e', rfl⟩
theorem calls_done {f : Nat} {L : List Int} {p : Nat} {cs : List (List (List Int))} (h : PyWide.calls f (L.drop p) = some cs) (hp : ¬ p < L.length) : cs = [] := by
  rw [List.drop_eq_nil_of_le (by omega)] at h
  cases f <;> (cases h; rfl)
theorem call_short {c : List (List Int)} {x : Co01.Call} (h : Co01Neutral.callOf c = some x) : c.length ≤ 2 := by
  unfold Co01Neutral.callOf at h
  split at h
  · unfold Co01Neutral.callIn at h
    split at h <;> first | (simp; done) | cases h
  · cases h
theorem told_cons (a : List Int) (l : List (List Int)) : PyFlat.told (a :: l) = ((a.length : Int) :: a) ++ PyFlat.told l := rfl
def spAns (K : PySem.W.Frag) : Sp := fun vs H Q _ => ∃ (a : Addr) (ns : List Int), vs = [.ref a] ∧ SqL K H a (ns.map V.int) ∧ PyCo01.answers_asked ns = true ∧
  ∀ (H' : Hp) (p : Addr), H' p = some (.lst ((PyCo01.answers ns).map V.int)) → Q (.ref p) H'
/-- what's asked, in parts -/
theorem asked_parts {L : List Int} (h : PyCo01.answers_asked L = true) : ∃ cs, PyWide.calls L.length (L.drop 0) = some cs ∧ cs.length ≤ 60 ∧ (∀ c ∈ cs, ∃ x, Co01Neutral.callOf c = some x) ∧ (PyCo01.answers L).length ≤ 10000000 ∧ PyCo01.answers L = PyFlat.told (PyFlat.played Co01Neutral.step Co01.init cs) := by
  unfold PyCo01.answers_asked at h
  cases e : PyCo01.calls L with
  | none => rw [e] at h; cases h
  | some cs =>
    rw [e] at h
    simp only [Bool.and_eq_true] at h
    obtain ⟨⟨⟨⟨h1, h2⟩, h3⟩, h4⟩, h5⟩ := h
    refine ⟨cs, ?_, ?_, fun c hc => ?_, ?_, ?_⟩
    · rw [List.drop_zero]; exact e
    · simpa [PyFlat.atMost] using h3
    · unfold Co01Neutral.asked at h4
      simp only [Bool.and_eq_true] at h4
      have := List.all_eq_true.mp h4.2.2.1 c hc
      exact Option.isSome_iff_exists.mp this
    · simpa [PyFlat.short] using h5
    · unfold PyCo01.answers
      rw [e]; rfl
section
variable {P : Program} {w : World} {K : PySem.W.Frag} {mg : Str → Option Value} {base : Heap} {f : Addr} {fd : FuncData} {CS CL : Addr}
/-! ## answers -/
abbrev sAns : Stmt := top 89
theorem scAns : FnScope ["calls", "line", "told", "place", "numbers", "lists", "behind", "answer"] ["calls"] (defScope sAns) := ⟨rfl, rfl, rfl, by decide +kernel, rfl, by decide +kernel, by decide +kernel⟩
theorem ok_ans {fI f1 f2 : Addr} {fdI fd1 fd2 : FuncData} (F : FnP K "answers" sAns f fd) (gL : mg "len" = none)
    (gC : mg "Line" = some (.ref CL)) (M : Mk K CL fI) (FI : L2.Fun K "__init__" "Line.__init__" sLnI fI fdI) (GI : FnOk P w K mg base CX0 1 fI fdI ["self"] (spLnI CL))
    (F1 : FnP K "handed_over" sHand f1 fd1) (m1 : mg "handed_over" = some (.ref f1)) (G1 : FnOk P w K mg base CX0 2 f1 fd1 ["calls", "place"] (spHand K))
    (F2 : FnP K "answer_to" sAnsTo f2 fd2) (m2 : mg "answer_to" = some (.ref f2)) (G2 : FnOk P w K mg base CX0 9 f2 fd2 ["line", "call", "numbers", "lists"] (spAnsTo CS CL)) :
    FnOk P w K mg base CX0 10 f fd ["calls"] (spAns K) := by
  have bI : Binds K fdI ["self"] [] := FI.binds fun _ _ _ _ _ _ us hl => match us, hl with | [_], _ => rfl
  have b1 : Binds K fd1 ["calls", "place"] [] := F1.binds fun _ _ _ _ _ _ us hl => match us, hl with | [_, _], _ => rfl
  have b2 : Binds K fd2 ["line", "call", "numbers", "lists"] [] := F2.binds fun _ _ _ _ _ _ us hl => match us, hl with | [_, _, _, _], _ => rfl
  refine F.ok scAns (fun vs H Q E h => ?_) (fun cdv A outer s H vs Q E hr h => ⟨_, (pss_cons (ps_set (i := 1) scAns.nd rfl (.inl rfl) (pe_make0 M (GI.mono (by decide)) hr rfl gC bI .nil pass0))
    (pss_cons (ps_set (i := 2) scAns.nd rfl (.inl rfl) (pe_lst pa_nil))
    (pss_cons (ps_set (i := 3) scAns.nd rfl (.inl rfl) pe_int)
    (pss_cons (ps_while PassesOwn.never (pt_cmpR op_lt (pv 3) (pe_callB call_len_seq rfl gL PySem.boot_len (pa_cons (pv 0) pa_nil)) (nomark _))
      (pss_cons (ps_asg (pe_call (G1.mono (by decide)) hr rfl m1 F1.kp b1 .nil pass0 (pa_cons (pv 0) (pa_cons (pv 3) pa_nil))) (pg_tup rfl (pgs_cons (pg_name (i := 4) scAns.nd rfl (.inl rfl)) (pgs_cons (pg_name (i := 5) scAns.nd rfl (.inl rfl)) (pgs_cons (pg_name (i := 6) scAns.nd rfl (.inl rfl)) pgs_nil)))))
      (pss_cons (ps_set (i := 7) scAns.nd rfl (.inl rfl) (pe_call G2 hr rfl m2 F2.kp b2 .nil pass0 (pa_cons (pv 1) (pa_cons (pe_ix ix_list (pv 0) (pv 3) (fun _ _ => rfl)) (pa_cons (pv 4) (pa_cons (pv 5) pa_nil))))))
      (pss_cons (ps_expr (pe_bm PySem.F.plainAttrs_list PySem.F.slot_list_append PySem.F.type_list_append mt_append (pv 2) (pa_cons (pe_callB call_len_seq rfl gL PySem.boot_len (pa_cons (pv 7) pa_nil)) pa_nil)))
      (pss_cons (ps_expr (pe_bm PySem.F.plainAttrs_list PySem.F.slot_list_extend PySem.F.type_list_extend mt_extend (pv 2) (pa_cons (pv 7) pa_nil)))
      (pss_one (ps_set (i := 3) scAns.nd rfl (.inl rfl) (pv 6))))))))
    (pss_one (ps_ret (pv 2))))))), ?_⟩)
  · obtain ⟨a, ns, rfl, _⟩ := h
    rfl
  · obtain ⟨c, L, rfl, hc, hask, q⟩ := h
    obtain ⟨cs, hcs, hn, hall, hlen, hans⟩ := asked_parts hask
    rw [hans] at hlen q
    have sl : sizeLine = 16777216 := sizeLine_eq
    intro o dxo ho hdx ne
    refine ⟨o, dxo, rfl, upd_same, fun H1 er nm her hnm hne ho1 her1 hnm1 b1 => ⟨rfl, ?_⟩⟩
    have k1 := made_same ho hdx b1
    refine ⟨by decide, fun tl htl => ?_⟩
    have k2 := same_new k1 htl (.lst [])
    have ot : o ≠ tl := fun z => by rw [← z, ho1] at htl; cases htl
    have et : er ≠ tl := fun z => by rw [← z, her1] at htl; cases htl
    have nt : nm ≠ tl := fun z => by rw [← z, hnm1] at htl; cases htl
    have tH : H tl = none := k1.free htl
    have eH : H er = none := upd_none (upd_none her)
    have L0 : LnAt CS CL (L2.upd H1 tl (.lst [])) o er tl Co01.init := ⟨dxo, nm, .non, [], [],
      { obj := by rw [upd_ne ot]; exact ho1
        now := rfl
        lst := by rw [upd_ne et]; exact her1
        past := ⟨rfl, fun i x n h => by simp at h⟩
        nmE := hne
        nmT := nt
        nms := by rw [upd_ne nt]; exact hnm1
        same := fun n h => nomatch h
        erT := et
        tl := ⟨[], upd_same⟩ }⟩
    refine ⟨fun n σ H2 => ∃ (p k : Nat) (o4 o5 o6 o7 : Option V) (er : Addr) (s : Co01.St) (T : List Int) (f : Nat) (cs' : List (List (List Int))), σ = [some (.ref c), some (.ref o), some (.ref tl), some (.int p), o4, o5, o6, o7] ∧ n = L.length - p ∧ Same H H2 ∧ H er = none ∧ LnAt CS CL H2 o er tl s ∧ StOk k s ∧
      H2 tl = some (.lst (intsV T)) ∧ PyWide.calls f (L.drop p) = some cs' ∧ k + cs'.length ≤ 60 ∧ (∀ c ∈ cs', ∃ x, Co01Neutral.callOf c = some x) ∧ T ++ PyFlat.told (PyFlat.played Co01Neutral.step s cs') = PyFlat.told (PyFlat.played Co01Neutral.step Co01.init cs),
      ⟨_, 0, 0, none, none, none, none, er, Co01.init, [], L.length, cs, rfl, rfl, k2, eH, L0, stok_init, upd_same, hcs, by omega, hall, rfl⟩, ?_⟩
    rintro n σ H2 ⟨p, k, o4, o5, o6, o7, er', s, T, f', cs', rfl, rfl, ks, hes, Ls, ok, hT, hw, hk, hal, hfin⟩
    have lv : (L.map V.int).length = L.length := List.length_map ..
    refine ⟨_, rfl, _, rfl, c, L.map V.int, rfl, .inl (hc.ext ks), _, _, rfl, rfl, _, rfl, ?_⟩
    rw [lv]
    by_cases hp : p < L.length
    · rw [decide_eq_true (show (p : Int) < (L.length : Int) by omega)]
      obtain ⟨f2, cc, u, cs2, hc1, hc2, rfl⟩ := calls_more hw hp
      obtain ⟨x, hx⟩ := hal cc (by simp)
      have hx2 := call_short hx
      obtain ⟨q0, n0, k0, b0, xs, h1, h2, h3, h4, h5, h6, rfl⟩ := call_at hc1
      refine ⟨_, fun _ _ h => h, ?_⟩
      refine ⟨_, rfl, _, rfl, c, L, p, q0, _, xs, u, rfl, hc.ext ks, hc1, by simp at hx2; omega, fun H3 t a b as e k3 ht ha hb rows eu hpe hel hq => ?_⟩
      refine ⟨t, _, rfl, .inl (.inl ht), rfl, _, _, rfl, _, _, rfl, _, _, rfl, rfl, ?_⟩
      have k03 := ks.trans k3
      refine ⟨_, rfl, _, rfl, _, rfl, c, L.map V.int, _, .int q0, rfl, rfl, hc.ext k03, atI_nat (by simp [hq]), _, rfl, _, rfl, o, er', tl, a, b, q0, _, xs, as, x, s, k, rfl, Ls.keeps k3, ok, by omega, ha, hb, rows, hx, fun H4 er2 r kc her2 L4 hr4 an => ?_⟩
      have estep : Co01Neutral.step s ((q0 :: (L.drop (p + 2)).take n0) :: xs) = Co01.step s x := by unfold Co01Neutral.step; rw [hx]
      have hT3 := k3 _ _ hT
      have ln_tl : o ≠ tl := ot
      have er_tl : er' ≠ tl := by obtain ⟨_, _, _, _, _, Lx⟩ := Ls; exact Lx.erT
      have hT4 : H4 tl = some (.lst (intsV T)) := kc.2 _ _ hT3 (by simp [Ne.symm ln_tl, Ne.symm er_tl])
      have k04 : Same H H4 := fun d y ed => kc.2 _ _ (k03 _ _ ed) (fun hm => by
        simp only [List.mem_cons, List.not_mem_nil, or_false] at hm
        rcases hm with h | h
        · rw [h, ho] at ed; cases ed
        · rw [h, hes] at ed; cases ed)
      have fin2 := hfin
      rw [show PyFlat.played Co01Neutral.step s (((q0 :: (L.drop (p + 2)).take n0) :: xs) :: cs2) = (Co01.step s x).2 :: PyFlat.played Co01Neutral.step (Co01.step s x).1 cs2 by
        show (Co01Neutral.step s _).2 :: PyFlat.played Co01Neutral.step (Co01Neutral.step s _).1 cs2 = _
        rw [estep], told_cons] at fin2
      have fl := congrArg List.length fin2
      rw [List.length_append, List.length_append, List.length_cons] at fl
      have rtl : r ≠ tl := fun z => by rw [z, hT3] at hr4; cases hr4
      have an : H4 r = some (.lst (intsV (Co01.step s x).2)) := an
      refine ⟨_, rfl, .inl ⟨rfl, _, .inl (.inl hT4)⟩, _, rfl, r, _, rfl, .inl (.inl (.inl an)), tl, _, _, rfl, rfl, hT4, ?_, ?_⟩
      · show (intsV T).length < sizeLine
        rw [show (intsV T).length = T.length by simp [intsV], sl]; omega
      rw [show (intsV (Co01.step s x).2).length = (Co01.step s x).2.length by simp [intsV]]
      refine ⟨_, rfl, .inl ⟨rfl, _, .inl (.inl upd_same)⟩, _, rfl, tl, r, _, _, rfl, rfl, upd_same, (by rw [upd_ne rtl]; exact an), ?_, ?_⟩
      · rw [List.length_append, show (intsV T).length = T.length by simp [intsV], show (intsV (Co01.step s x).2).length = (Co01.step s x).2.length by simp [intsV], sl]
        show T.length + 1 + _ ≤ _
        omega
      refine ⟨_, rfl, L.length - e, by omega, e, k + 1, _, _, _, _, er2, (Co01.step s x).1, T ++ ((Co01.step s x).2.length : Int) :: (Co01.step s x).2, f2, cs2, rfl, rfl, ?_, ?_, (L4.told _).told _, stok_step ok hx, ?_, ?_, ?_, fun c hc => hal c (by simp [hc]), ?_⟩
      · intro d y ed
        have : d ≠ tl := fun z => by rw [z, tH] at ed; cases ed
        rw [upd_ne this, upd_ne this]
        exact k04 _ _ ed
      · rcases her2 with h | h
        · rw [h]; exact hes
        · exact k03.free h
      · rw [upd_same]
        simp [intsV]
      · rw [← eu]; exact hc2
      · simp at hk; omega
      · rw [← fin2]; simp
    · rw [decide_eq_false (show ¬ (p : Int) < (L.length : Int) by omega)]
      obtain rfl := calls_done hw hp
      refine ⟨_, rfl, q H2 tl ?_⟩
      rw [hT, ← hfin]
      simp [PyFlat.played, PyFlat.told, intsV]
end
end Bd
end
section
set_option Elab.async false
set_option linter.all false
set_option maxRecDepth 100000
set_option maxHeartbeats 4000000
set_option autoImplicit false
/-! what the top has written, told by Bools of the written part -/
namespace Hk
open PySem PySem.Spec PyProof.Rows L2 He Bd
/-! ### tuples -/
theorem ktuB_ok {K : PySem.W.Frag} {a : Addr} {vs : List V} (h : ktuB K a vs = true) : KTu K a vs := by
  unfold ktuB at h
  cases q : K.lookup a with
  | none => rw [q] at h; cases h
  | some o =>
    obtain ⟨oc, od, dt, osl⟩ := o
    rw [q] at h
    cases oc with
    | type c =>
      cases dt with
      | seq its n =>
        obtain ⟨h1, h2⟩ := ba (show (decide (c = "tuple") && (decide (its.size ≤ sizeLine) && relAll vs its.toList)) = true from h)
        obtain ⟨h3, h4⟩ := ba h2
        exact ⟨_, its, n, q, congrArg Value.type (of_decide_eq_true h1), rfl, of_decide_eq_true h3, relAll_ok h4⟩
      | _ => cases h
    | _ => cases dt <;> cases h
theorem goalsB_ok {K : PySem.W.Frag} : ∀ {l : List Mx.G} {us : List Value}, goalsB K l us = true → ∃ vs, Vals vs us ∧ GoalsV K l vs
  | [], [], _ => ⟨[], .nil, .nil⟩
  | [], _ :: _, h => by cases h
  | _ :: _, [], h => by cases h
  | g :: l, u :: us, h => by
    obtain ⟨h1, h2⟩ := ba (show (goalB K g u && goalsB K l us) = true from h)
    obtain ⟨vs, r1, r2⟩ := goalsB_ok h2
    cases g with
    | sym z => exact ⟨.str (sB z) :: vs, .cons (relB_ok h1) r1, .cons rfl r2⟩
    | mk w =>
      cases u with
      | ref a => exact ⟨.ref a :: vs, .cons rfl r1, .cons ⟨a, rfl, ktuB_ok h1⟩ r2⟩
      | _ => cases h1
theorem ruleB_ok {K : PySem.W.Frag} {l : List Mx.G} {u : Value} (h : ruleB K l u = true) : ∃ a vs, u = .ref a ∧ KTu K a vs ∧ GoalsV K l vs := by
  cases u with
  | ref a =>
    have h : (match K.lookup a with
      | some ⟨.type c, _, .seq its _, _⟩ => decide (c = "tuple") && (decide (its.size ≤ sizeLine) && goalsB K l its.toList)
      | _ => false) = true := h
    cases q : K.lookup a with
    | none => rw [q] at h; cases h
    | some o =>
      obtain ⟨oc, od, dt, osl⟩ := o
      rw [q] at h
      cases oc with
      | type c =>
        cases dt with
        | seq its n =>
          obtain ⟨h1, h2⟩ := ba (show (decide (c = "tuple") && (decide (its.size ≤ sizeLine) && goalsB K l its.toList)) = true from h)
          obtain ⟨h3, h4⟩ := ba h2
          obtain ⟨vs, r1, r2⟩ := goalsB_ok h4
          exact ⟨a, vs, rfl, ⟨_, its, n, q, congrArg Value.type (of_decide_eq_true h1), rfl, of_decide_eq_true h3, r1⟩, r2⟩
        | _ => cases h
      | _ => cases dt <;> cases h
  | _ => cases h
/-! ### a dict's entries -/
theorem isDict_ok {K : PySem.W.Frag} {a : Addr} (h : isDict K a = true) : ∃ (es : Array DictEntry) (n : Nat), K.lookup a = some ⟨.type "dict", none, .dict es n, #[]⟩ ∧ (a == sysModules) = false ∧ entsOf K a = es.toList := by
  unfold isDict at h
  cases q : K.lookup a with
  | none => rw [q] at h; cases h
  | some o =>
    obtain ⟨oc, od, dt, osl⟩ := o
    rw [q] at h
    cases oc with
    | type c =>
      cases od with
      | none =>
        cases dt with
        | dict es n =>
          obtain ⟨z1, z2⟩ := ba (show (decide (c = "dict") && (osl.isEmpty && !(a == sysModules))) = true from h)
          obtain ⟨z3, z4⟩ := ba z2
          have e1 : c = "dict" := of_decide_eq_true z1
          have e2 : osl = #[] := Array.isEmpty_iff.mp z3
          subst e1 e2
          exact ⟨es, n, rfl, by simpa using z4, by unfold entsOf; rw [q]⟩
        | _ => cases h
      | some b => cases dt <;> cases h
    | _ => cases od <;> cases dt <;> cases h
/-! ### keys of ints or texts -/
theorem keyM_ok {w : World} {e : DictEntry} {k : Key} (h : keyM e = some (k, keyH w k)) : keyIs k e.key = true ∧ e.hash = keyH w k ∧ ∀ j, keyIs j e.key = true → j = k := by
  unfold keyM at h
  split at h
  · rename_i i t q
    obtain ⟨h1, h2⟩ := Prod.mk.inj (Option.some.inj h)
    subst h1
    refine ⟨by rw [q]; exact keyIs_int i t, h2, fun j hj => ?_⟩
    rw [q] at hj
    rcases keyIs_shape hj with ⟨i', t', rfl, e⟩ | ⟨x, t', rfl, e⟩
    · injection e with e1 _; rw [e1]
    · exact nomatch e
  · rename_i x t q
    obtain ⟨h1, h2⟩ := Prod.mk.inj (Option.some.inj h)
    subst h1
    refine ⟨by rw [q]; exact keyIs_str x t, h2, fun j hj => ?_⟩
    rw [q] at hj
    rcases keyIs_shape hj with ⟨i', t', rfl, e⟩ | ⟨x', t', rfl, e⟩
    · exact nomatch e
    · injection e with e1 _; rw [e1]
  · cases h
/-- the value that stands at a key -/
def lookK : List Key → List Value → Key → Option Value
  | k :: ks, u :: us, j => if j = k then some u else lookK ks us j
  | _, _, _ => none
theorem find_keys {w : World} {k : Key} : ∀ {es : List DictEntry} {ks : List Key}, es.map keyM = keysM w ks → (es.find? fun e => keyIs k e.key).map (·.val) = lookK ks (es.map (·.val)) k
  | [], [], _ => rfl
  | [], _ :: _, h => by cases h
  | _ :: _, [], h => by cases h
  | e :: es, j :: ks, h => by
    have h : keyM e :: es.map keyM = some (j, keyH w j) :: keysM w ks := h
    injection h with h1 h2
    obtain ⟨a, b, c⟩ := keyM_ok h1
    by_cases q : k = j
    · subst q
      rw [List.find?_cons_of_pos (p := fun e : DictEntry => keyIs k e.key) a]
      show some e.val = if k = k then some e.val else _
      rw [if_pos rfl]
    · have : ¬ keyIs k e.key = true := fun z => q (c k z)
      rw [List.find?_cons_of_neg (p := fun e : DictEntry => keyIs k e.key) this, find_keys h2]
      show _ = if k = j then some e.val else _
      rw [if_neg q]
theorem kmix_of {P : Program} {w : World} {K : PySem.W.Frag} {a : Addr} {ks : List Key} (hd : isDict K a = true) (hk : (entsOf K a).map keyM = keysM w ks) : KMix P w K a fun k => lookK ks ((entsOf K a).map (·.val)) k := by
  obtain ⟨es, n, h1, h2, h3⟩ := isDict_ok hd
  rw [h3] at hk ⊢
  refine ⟨es, n, h1, fun e he => ?_, fun k => ?_, h2⟩
  · have he' : e ∈ es.toList := by simpa using he
    have : keyM e ∈ es.toList.map keyM := List.mem_map.mpr ⟨e, he', rfl⟩
    rw [hk] at this
    obtain ⟨k, _, hk'⟩ := List.mem_map.mp this
    obtain ⟨a1, a2, _⟩ := keyM_ok hk'.symm
    exact ⟨k, a1, a2⟩
  · obtain ⟨l⟩ := es
    unfold findBy
    rw [List.find?_toArray]
    exact find_keys hk
/-- what a lookup in keys and values finds -/
theorem look_zip {R : Key → Value → Prop} {ks : List Key} {us : List Value} (h : Paired R ks us) (k : Key) : (k ∈ ks → ∃ u, lookK ks us k = some u ∧ R k u) ∧ (k ∉ ks → lookK ks us k = none) := by
  induction h with
  | nil => exact ⟨(fun h => nomatch h), fun _ => rfl⟩
  | @cons j u ks us h t ih =>
    by_cases q : k = j
    · subst q
      exact ⟨fun _ => ⟨u, if_pos rfl, h⟩, fun n => absurd List.mem_cons_self n⟩
    · have e : lookK (j :: ks) (u :: us) k = lookK ks us k := if_neg q
      rw [e]
      exact ⟨fun m => ih.1 ((List.mem_cons.mp m).resolve_left q), fun n => ih.2 fun m => n (List.mem_cons_of_mem _ m)⟩
/-! ### SIGNS -/
theorem signB_ok : ∀ {l : List Nat} {us : List Value}, signB l us = true → Paired (fun k u => ∃ c : Nat, k = (Sum.inl (c : Int) : Key) ∧ ∃ t, u = .str (sB [c]) t) (l.map fun (c : Nat) => (Sum.inl (c : Int) : Key)) us
  | [], [], _ => .nil
  | [], _ :: _, h => by cases h
  | _ :: _, [], h => by cases h
  | c :: l, u :: us, h => by
    obtain ⟨h1, h2⟩ := ba (show (relB (.str (sB [c])) u && signB l us) = true from h)
    exact .cons ⟨c, rfl, relB_ok h1⟩ (signB_ok h2)
theorem signs_of {P : Program} {w : World} {K : PySem.W.Frag} {mg : Str → Option Value} {a : Addr} (hm : mg "SIGNS" = some (.ref a)) (hd : isDict K a = true) (hk : (entsOf K a).map keyM = keysM w signKs) (hv : signB Co01.SIGNS ((entsOf K a).map (·.val)) = true) : SignsG P w K mg := by
  refine ⟨a, hm, _, kmix_of hd hk, fun c => ?_⟩
  have z := look_zip (signB_ok hv) (.inl (c : Int))
  by_cases m : Co01.SIGNS.contains c = true
  · rw [if_pos m]
    obtain ⟨u, e, c', q, t, rfl⟩ := z.1 (List.mem_map.mpr ⟨c, by simpa using m, rfl⟩)
    have : c' = c := by
      have := Sum.inl.inj q
      omega
    subst this
    exact ⟨t, e⟩
  · rw [if_neg m]
    refine z.2 fun h => m ?_
    obtain ⟨c', h1, h2⟩ := List.mem_map.mp h
    have : c' = c := by
      have := Sum.inl.inj h2
      omega
    subst this
    simpa using h1
/-! ### RULES -/
theorem rules_look {w : World} {K : PySem.W.Frag} (g : Co01.Bytes) : ∀ {l : List (Co01.Bytes × List Mx.G)} {us : List Value}, rulesB K l us = true → match l.lookup g with
    | some gs => ∃ (a : Addr) (vs : List V), lookK (l.map fun x => (Sum.inr (sB x.1) : Key)) us (Sum.inr (sB g)) = some (.ref a) ∧ KTu K a vs ∧ GoalsV K gs vs
    | none => lookK (l.map fun x => (Sum.inr (sB x.1) : Key)) us (Sum.inr (sB g)) = none
  | [], [], _ => rfl
  | [], _ :: _, h => by cases h
  | _ :: _, [], h => by cases h
  | (b, gs) :: l, u :: us, h => by
    obtain ⟨h1, h2⟩ := ba (show (ruleB K gs u && rulesB K l us) = true from h)
    by_cases q : g = b
    · subst q
      have e1 : ((g, gs) :: l).lookup g = some gs := by simp [List.lookup]
      rw [e1]
      obtain ⟨a, vs, rfl, r1, r2⟩ := ruleB_ok h1
      exact ⟨a, vs, if_pos rfl, r1, r2⟩
    · have q1 : (g == b) = false := by simpa using q
      have q2 : ¬ (Sum.inr (sB g) : Key) = Sum.inr (sB b) := fun z => q (sB_inj.mp (Sum.inr.inj z))
      have e1 : ((b, gs) :: l).lookup g = l.lookup g := by simp [List.lookup, q1]
      have e2 : lookK (((b, gs) :: l).map fun x => (Sum.inr (sB x.1) : Key)) (u :: us) (Sum.inr (sB g)) = lookK (l.map fun x => (Sum.inr (sB x.1) : Key)) us (Sum.inr (sB g)) := if_neg q2
      rw [e1, e2]
      exact rules_look (w := w) g h2
theorem byRule_of {P : Program} {w : World} {K : PySem.W.Frag} {mg : Str → Option Value} {a : Addr} (hm : mg "RULES" = some (.ref a)) (hd : isDict K a = true) (hk : (entsOf K a).map keyM = keysM w ruleKs) (hv : rulesB K Mx.RULES ((entsOf K a).map (·.val)) = true) : ByRuleG P w K mg :=
  ⟨a, hm, _, kmix_of hd hk, fun g => rules_look (w := w) g hv⟩
/-! ### RULES_BY_TOKEN -/
theorem textsOf_ok : ∀ {us : List Value} {zs : List Str}, textsOf us = some zs → Paired (fun z u => ∃ t, u = Value.str z t) zs us
  | [], zs, h => by cases h; exact .nil
  | u :: us, zs, h => by
    cases u with
    | str x t =>
      have h : (textsOf us).map (x :: ·) = some zs := h
      obtain ⟨ys, h1, rfl⟩ := Option.map_eq_some_iff.mp h
      exact .cons ⟨t, rfl⟩ (textsOf_ok h1)
    | _ => cases h
theorem kd_hash {P : Program} {w : World} (zs : List Str) : (HdX.kd P w).hash zs = (tupleKind (mixKind P w)).hash (zs.map Sum.inr) := by
  show tupleKeyHash (strKind P w) zs = tupleKeyHash (mixKind P w) (zs.map Sum.inr)
  unfold tupleKeyHash
  rw [List.map_map]
  rfl
theorem items_of {P : Program} {w : World} {zs : List Str} {us : List Value} (h : Paired (fun z u => ∃ t, u = Value.str z t) zs us) : ItemsAre (mixKind P w) (zs.map Sum.inr) us := by
  induction h with
  | nil => exact .nil
  | cons h _ ih =>
    obtain ⟨t, rfl⟩ := h
    exact .cons (mixKind_str P w _ t) ih
theorem keyT_ok {K : PySem.W.Frag} {P : Program} {w : World} {e : DictEntry} {zs : List Str} (h : keyT K e = some ((HdX.kd P w).hash zs, zs)) : ∃ a, e = entryOfKey (tupleKind (mixKind P w)) (zs.map Sum.inr, a, e.val) ∧
    ∃ o items m, K.lookup a = some o ∧ o.cls = .type "tuple" ∧ o.data = .seq items m ∧ ItemsAre (mixKind P w) (zs.map Sum.inr) items.toList := by
  obtain ⟨eh, ek, ev⟩ := e
  cases ek with
  | ref a =>
    have h : (match K.lookup a with
      | some ⟨.type c, _, .seq its _, _⟩ => (match decide (c = "tuple") with
        | true => (textsOf its.toList).map fun zs => (eh, zs)
        | false => none)
      | _ => none) = some ((HdX.kd P w).hash zs, zs) := h
    cases q : K.lookup a with
    | none => rw [q] at h; cases h
    | some o =>
      obtain ⟨oc, od, dt, osl⟩ := o
      rw [q] at h
      cases oc with
      | type c =>
        cases dt with
        | seq its n =>
          have h : (match decide (c = "tuple") with
            | true => (textsOf its.toList).map fun zs => (eh, zs)
            | false => none) = some ((HdX.kd P w).hash zs, zs) := h
          by_cases hc : c = "tuple"
          · rw [decide_eq_true hc] at h
            obtain ⟨ys, h1, h2⟩ := Option.map_eq_some_iff.mp h
            obtain ⟨h3, h4⟩ := Prod.mk.inj h2
            subst h4
            refine ⟨a, ?_, _, its, n, q, congrArg Value.type hc, rfl, ?_⟩
            · show (⟨eh, .ref a, ev⟩ : DictEntry) = ⟨_, .ref a, ev⟩
              rw [h3, kd_hash]
            · exact items_of (textsOf_ok h1)
          · rw [decide_eq_false hc] at h; cases h
        | _ => cases h
      | _ => cases dt <;> cases h
  | _ => cases h
/-- entries, key by key -/
theorem ktup_list {P : Program} {w : World} {K : PySem.W.Frag} : ∀ {es : List DictEntry} {l : List ((Co01.Bytes × Co01.Bytes) × List Mx.G)}, es.map (keyT K) = keysT P w (l.map fun x => [sB x.1.1, sB x.1.2]) → tokB K l (es.map (·.val)) = true →
    ∃ xs : List (List Key × Addr × Value), es = xs.map (entryOfKey (tupleKind (mixKind P w))) ∧ (∀ x ∈ xs, ∃ o items m, K.lookup x.2.1 = some o ∧ o.cls = .type "tuple" ∧ o.data = .seq items m ∧ ItemsAre (mixKind P w) x.1 items.toList) ∧
      xs.map (·.1) = l.map (fun x => ([Sum.inr (sB x.1.1), Sum.inr (sB x.1.2)] : List Key)) ∧ ∀ g k : Co01.Bytes, match l.lookup (g, k) with
        | some gs => ∃ (p a : Addr) (vs : List V), atKey xs [Sum.inr (sB g), Sum.inr (sB k)] = some (p, .ref a) ∧ KTu K a vs ∧ GoalsV K gs vs
        | none => atKey xs [Sum.inr (sB g), Sum.inr (sB k)] = none
  | [], [], _, _ => ⟨[], rfl, (fun x h => nomatch h), rfl, fun g k => rfl⟩
  | [], _ :: _, h, _ => by cases h
  | _ :: _, [], h, _ => by cases h
  | e :: es, ((b, c), gs) :: l, h, hv => by
    have h : keyT K e :: es.map (keyT K) = some ((HdX.kd P w).hash [sB b, sB c], [sB b, sB c]) :: keysT P w (l.map fun x => [sB x.1.1, sB x.1.2]) := h
    injection h with h1 h2
    obtain ⟨v1, v2⟩ := ba (show (ruleB K gs e.val && tokB K l (es.map (·.val))) = true from hv)
    obtain ⟨xs, r1, r2, r3, r4⟩ := ktup_list h2 v2
    obtain ⟨a, e1, e2⟩ := keyT_ok h1
    obtain ⟨t, vs, hv, r5, r6⟩ := ruleB_ok v1
    refine ⟨([sB b, sB c].map Sum.inr, a, e.val) :: xs, by rw [List.map_cons, ← e1, ← r1], fun x hx => ?_, by rw [List.map_cons, List.map_cons, r3]; rfl, fun g k => ?_⟩
    · rcases List.mem_cons.mp hx with rfl | hx
      · exact e2
      · exact r2 x hx
    · by_cases q : (g, k) = (b, c)
      · cases q
        have e3 : (((b, c), gs) :: l).lookup (b, c) = some gs := by simp [List.lookup]
        rw [e3]
        refine ⟨a, t, vs, ?_, r5, r6⟩
        unfold atKey
        rw [List.find?_cons_of_pos (p := fun x : List Key × Addr × Value => decide (x.1 = [Sum.inr (sB b), Sum.inr (sB c)])) (decide_eq_true rfl), hv]
        rfl
      · have q1 : ((g, k) == (b, c)) = false := by simpa using q
        have e3 : (((b, c), gs) :: l).lookup (g, k) = l.lookup (g, k) := by
          show (match (g, k) == (b, c) with | true => some gs | false => l.lookup (g, k)) = _
          rw [q1]
        have q2 : ¬ (([sB b, sB c].map Sum.inr : List Key) = [Sum.inr (sB g), Sum.inr (sB k)]) := fun z => q (by
          injection z with z1 z2
          injection z2 with z2 _
          rw [sB_inj.mp (Sum.inr.inj z1), sB_inj.mp (Sum.inr.inj z2)])
        have e4 : atKey (([sB b, sB c].map Sum.inr, a, e.val) :: xs) [Sum.inr (sB g), Sum.inr (sB k)] = atKey xs [Sum.inr (sB g), Sum.inr (sB k)] := by
          unfold atKey
          rw [List.find?_cons_of_neg (p := fun x : List Key × Addr × Value => decide (x.1 = [Sum.inr (sB g), Sum.inr (sB k)])) (by rw [decide_eq_false q2]; decide)]
        rw [e3, e4]
        exact r4 g k
theorem tok_nodup : (Mx.BYTOK.map (fun x => ([Sum.inr (sB x.1.1), Sum.inr (sB x.1.2)] : List Key))).Nodup := by decide +kernel
theorem byTok_of {P : Program} {w : World} {K : PySem.W.Frag} {mg : Str → Option Value} {a : Addr} (hm : mg "RULES_BY_TOKEN" = some (.ref a)) (hd : isDict K a = true) (hk : (entsOf K a).map (keyT K) = keysT P w tokKs) (hv : tokB K Mx.BYTOK ((entsOf K a).map (·.val)) = true) : ByTokG P w K mg := by
  obtain ⟨es, n, h1, h2, h3⟩ := isDict_ok hd
  rw [h3] at hk hv
  obtain ⟨xs, r1, r2, r3, r4⟩ := ktup_list (P := P) (w := w) hk hv
  exact ⟨a, hm, xs, ⟨es, n, h1, r1, r2, by rw [r3]; exact tok_nodup, h2⟩, fun g k => r4 g k⟩
/-! ### tables with text keys -/
theorem kdct_of {w : World} {K : PySem.W.Frag} {a : Addr} {ks : List Str} {kvs : List (Str × Dv)} (hd : dicW K a = some (keysIn w.params ks)) (hv : valsB K a kvs = true) {q : Str × Dv} (hq : q ∈ kvs) : KDct K w a q.1 (q.2.v K) := by
  obtain ⟨es, n, D⟩ := dicW_ok hd
  obtain ⟨u, e, r⟩ := valsB_ok hv hq
  exact ⟨es, n, u, D.at_, D.lit, e, r⟩
theorem counts_of {w : World} {K : PySem.W.Frag} {mg : Str → Option Value} {a : Addr} (hm : mg "PART_COUNTS" = some (.ref a)) (hd : dicW K a = some (keysIn w.params (COUNTS.map (·.1)))) (hv : valsB K a countVs = true) : CountsG w K mg :=
  ⟨a, hm, fun x hx => kdct_of hd hv (q := (x.1, .int x.2)) (List.mem_map.mpr ⟨x, hx, rfl⟩)⟩
theorem clos_of {w : World} {K : PySem.W.Frag} {mg : Str → Option Value} {a : Addr} (hm : mg "CLOSENESS" = some (.ref a)) (hd : dicW K a = some (keysIn w.params closKs)) (hv : valsB K a closVs = true) : ClosG w K mg :=
  ⟨a, hm, fun x hx => kdct_of hd hv (q := (sB x, .int (Mx.closeB x : Nat))) (List.mem_map.mpr ⟨x, hx, rfl⟩)⟩
theorem kids_of {w : World} {K : PySem.W.Frag} {mg : Str → Option Value} {a : Addr} (hm : mg "PARTS_CLOSENESS" = some (.ref a)) (hd : dicW K a = some (keysIn w.params closKs)) (hv : kidB K a = true) : KidsG w K mg := by
  refine ⟨a, hm, fun x hx => ?_⟩
  obtain ⟨es, n, D⟩ := dicW_ok hd
  have h := List.all_eq_true.mp hv x hx
  cases e : PySem.W.nsIn K a (sB x) with
  | none => rw [e] at h; cases h
  | some r =>
    rw [e] at h
    cases r with
    | none => cases h
    | some u =>
      cases u with
      | ref b => exact ⟨b, ⟨es, n, .ref b, D.at_, D.lit, e, rfl⟩, ktuB_ok h⟩
      | _ => cases h
end Hk
end
section
set_option Elab.async false
set_option linter.all false
set_option maxRecDepth 100000
set_option maxHeartbeats 4000000
set_option autoImplicit false
namespace Hk
open PySem PySem.Spec PyProof.Rows L2 He Bd
open PySem.HandSPX
/-! ### the class Fault -/
theorem fltB_ok {K : PySem.W.Frag} {C : Addr} (q : fltB K C = true) : ∃ nm q N bs bm sn sub ab col dd k0 k1 k2 k3 k5, K.lookup C = some (PySem.excClassObj nm q C N bs bm true sn sub ab col dd k0 k1 k2 k3 k5 "Exception.__new__") ∧ PySem.W.excTail tailE bm = true := by
  unfold fltB at q
  split at q
  · rename_i dd cd sl ho
    split at q
    · rename_i C' bm k0 k1 k2 k3 n k5 hm hs
      simp only [Bool.and_eq_true, beq_iff_eq, Bool.not_eq_true'] at q
      obtain ⟨⟨⟨⟨rfl, rfl⟩, hdel⟩, hdc⟩, ht⟩ := q
      obtain ⟨nm, bs, mro, ns, qn, hd, sn, sub, ab, col, del⟩ := cd
      dsimp only at hm hdel hdc
      subst hm hdel hdc
      have hsl : sl = #[k0, k1, k2, k3, some (.builtin "Exception.__new__"), k5] := by
        obtain ⟨l⟩ := sl
        simp only at hs
        rw [hs]
      subst hsl
      exact ⟨nm, qn, ns, bs, bm, sn, sub, ab, col, dd, k0, k1, k2, k3, k5, ho, ht⟩
    · cases q
  · cases q
theorem dfl_none {K : PySem.W.Frag} {dV : Value} (h : DflV K dV []) : dV = .none := h.elim (fun h => h.2) fun h => absurd rfl h.1
theorem flt_of {K : PySem.W.Frag} {mg : Str → Option Value} {C f : Addr} {fd : FuncData} (g : mg "Fault" = some (.ref C)) (h : fltAll K C f = true)
    {p1 p2 q1 q2 q3 q4 : Pos} (F : FunD K "__init__" "Fault.__init__" (PySem.FaultX.iA p1 p2) (PySem.FaultX.iB q1 q2 q3 q4) PySem.FaultX.iS [] [] f fd) : PySem.FaultX.FaultTxt K mg C f := by
  obtain ⟨c1, h⟩ := ba h
  obtain ⟨c2, h⟩ := ba h
  obtain ⟨c3, h⟩ := ba h
  obtain ⟨c4, h⟩ := ba h
  obtain ⟨c5, h⟩ := ba h
  obtain ⟨c6, h⟩ := ba h
  obtain ⟨c7, h⟩ := ba h
  obtain ⟨c8, h⟩ := ba h
  obtain ⟨c9, h⟩ := ba h
  obtain ⟨c10, h⟩ := ba h
  obtain ⟨c11, c12⟩ := ba h
  obtain ⟨oc, od, dV, kV, doc, pm, an, cdv, ct, osl, rfl, lk, hcd, hd, _⟩ := F.ex
  obtain rfl := dfl_none hd
  exact ⟨g, fltB_ok c1, eqO_ok c2, eqO_ok c3, eqO_ok c4, eqO_ok c5, eqO_ok c6, of_decide_eq_true c7, c8, of_decide_eq_true c9, of_decide_eq_true c10, c11, of_decide_eq_true c12, oc, od, kV, doc, pm, an, cdv, ct, osl, p1, p2, q1, q2, q3, q4, lk, hcd⟩
theorem fun_of {K : PySem.W.Frag} {x qual : Str} {st : Stmt} {f : Addr} {fd : FuncData} (F : FunD K x qual (L2.defArgs st) (L2.defBody st) (L2.defScope st) [] [] f fd) : L2.Fun K x qual st f fd := by
  obtain ⟨oc, od, dV, kV, doc, pm, an, cdv, ct, osl, rfl, lk, hcd, hd, _⟩ := F.ex
  obtain rfl := dfl_none hd
  exact ⟨⟨oc, od, kV, doc, pm, an, cdv, ct, osl, rfl, lk, hcd⟩, F.kp⟩
/-! ### what is asked of the top -/
end Hk
end
section
set_option Elab.async false
set_option linter.all false
set_option maxRecDepth 100000
set_option maxHeartbeats 4000000
set_option autoImplicit false
namespace Hk
open PySem PySem.Spec PyProof.Rows L2 He Bd
section
variable {w : World} {h : Heap} {mg : Str → Option Value} {K : PySem.W.Frag}
theorem sd (c : obsM K = valM w) : SaysD fa fn K := congrArg (fun z : AlM => z.1) c
theorem exc (c : obsM K = valM w) : ex K = true := congrArg (fun z : AlM => z.2.1) c
theorem tb (c : obsM K = valM w) : [dicW K (ga K "PART_COUNTS"), dicW K (ga K "CLOSENESS"), dicW K (ga K "PARTS_CLOSENESS")] = [some (keysIn w.params (COUNTS.map (·.1))), some (keysIn w.params closKs), some (keysIn w.params closKs)] := congrArg (fun z : AlM => z.2.2.1) c
theorem tS (c : obsM K = valM w) : (entsOf K (ga K "SIGNS")).map keyM = keysM w signKs := congrArg (fun z : AlM => z.2.2.2.1) c
theorem tR (c : obsM K = valM w) : (entsOf K (ga K "RULES")).map keyM = keysM w ruleKs := congrArg (fun z : AlM => z.2.2.2.2.1) c
theorem tT (c : obsM K = valM w) : (entsOf K (ga K "RULES_BY_TOKEN")).map (keyT K) = keysT Bd.PP w tokKs := congrArg (fun z : AlM => z.2.2.2.2.2) c
theorem fF (c : SaysD fa fn K) (x : Str) (i j : Nat) (e : fn[j]? = some (dF x i)) : ∃ fd, FnP K x (Bd.top i) (ga K x) fd := by
  obtain ⟨fd, H⟩ := c.def_ j e
  exact ⟨fd, fun_of H⟩
theorem fM (c : SaysD fa fn K) (C m q : Str) (i j k : Nat) (e : fn[k]? = some (dM C m q i j)) : ∃ fd, L2.Fun K m q (L2.inClass (Bd.top i) j) (ma K (ga K C) m) fd := by
  obtain ⟨fd, H⟩ := c.def_ k e
  exact ⟨fd, fun_of H⟩
theorem init_at : ∃ p1 p2 q1 q2 q3 q4, L2.defArgs (L2.inClass (Bd.top 1) 0) = PySem.FaultX.iA p1 p2 ∧ L2.defBody (L2.inClass (Bd.top 1) 0) = PySem.FaultX.iB q1 q2 q3 q4 ∧ L2.defScope (L2.inClass (Bd.top 1) 0) = PySem.FaultX.iS := ⟨_, _, _, _, _, _, rfl, rfl, by decide +kernel⟩
theorem promise (X : K.In h) (G : h.Ns mainGlobals mg) (c : obsM K = valM w) : ∃ fd, FnP K "answers" Bd.sAns (ga K "answers") fd ∧ mg "answers" = some (.ref (ga K "answers")) ∧ ∀ base : Heap, FnOk Bd.PP w K mg base CX0 10 (ga K "answers") fd ["calls"] (Bd.spAns K) := by
  have d := sd c
  have x0 := exc c
  have g_nothing : mg "nothing" = some (.ref (ga K "nothing")) := glo_ok X G (d.fact 0)
  have g_number_steps : mg "number_steps" = some (.ref (ga K "number_steps")) := glo_ok X G (d.fact 1)
  have g_joined : mg "joined" = some (.ref (ga K "joined")) := glo_ok X G (d.fact 2)
  have g_taken_parts : mg "taken_parts" = some (.ref (ga K "taken_parts")) := glo_ok X G (d.fact 3)
  have g_part_start : mg "part_start" = some (.ref (ga K "part_start")) := glo_ok X G (d.fact 4)
  have g_reckoned : mg "reckoned" = some (.ref (ga K "reckoned")) := glo_ok X G (d.fact 5)
  have g_combined : mg "combined" = some (.ref (ga K "combined")) := glo_ok X G (d.fact 6)
  have g_compared : mg "compared" = some (.ref (ga K "compared")) := glo_ok X G (d.fact 7)
  have g_settled : mg "settled" = some (.ref (ga K "settled")) := glo_ok X G (d.fact 8)
  have g_gone_through : mg "gone_through" = some (.ref (ga K "gone_through")) := glo_ok X G (d.fact 9)
  have g_step_outcome : mg "step_outcome" = some (.ref (ga K "step_outcome")) := glo_ok X G (d.fact 10)
  have g_times_outcome : mg "times_outcome" = some (.ref (ga K "times_outcome")) := glo_ok X G (d.fact 11)
  have g_both_left : mg "both_left" = some (.ref (ga K "both_left")) := glo_ok X G (d.fact 12)
  have g_left_within : mg "left_within" = some (.ref (ga K "left_within")) := glo_ok X G (d.fact 13)
  have g_waiting_in : mg "waiting_in" = some (.ref (ga K "waiting_in")) := glo_ok X G (d.fact 14)
  have g_waiting_at : mg "waiting_at" = some (.ref (ga K "waiting_at")) := glo_ok X G (d.fact 15)
  have g_exchanged : mg "exchanged" = some (.ref (ga K "exchanged")) := glo_ok X G (d.fact 16)
  have g_choice_made : mg "choice_made" = some (.ref (ga K "choice_made")) := glo_ok X G (d.fact 17)
  have g_begun : mg "begun" = some (.ref (ga K "begun")) := glo_ok X G (d.fact 18)
  have g_agreement_of : mg "agreement_of" = some (.ref (ga K "agreement_of")) := glo_ok X G (d.fact 19)
  have g_put_goals : mg "put_goals" = some (.ref (ga K "put_goals")) := glo_ok X G (d.fact 20)
  have g_make_step : mg "make_step" = some (.ref (ga K "make_step")) := glo_ok X G (d.fact 21)
  have g_tokens_of : mg "tokens_of" = some (.ref (ga K "tokens_of")) := glo_ok X G (d.fact 22)
  have g_is_letter : mg "is_letter" = some (.ref (ga K "is_letter")) := glo_ok X G (d.fact 23)
  have g_is_digit : mg "is_digit" = some (.ref (ga K "is_digit")) := glo_ok X G (d.fact 24)
  have g_word_end : mg "word_end" = some (.ref (ga K "word_end")) := glo_ok X G (d.fact 25)
  have g_number_end : mg "number_end" = some (.ref (ga K "number_end")) := glo_ok X G (d.fact 26)
  have g_word_token : mg "word_token" = some (.ref (ga K "word_token")) := glo_ok X G (d.fact 27)
  have g_number_token : mg "number_token" = some (.ref (ga K "number_token")) := glo_ok X G (d.fact 28)
  have g_names_of : mg "names_of" = some (.ref (ga K "names_of")) := glo_ok X G (d.fact 29)
  have g_written : mg "written" = some (.ref (ga K "written")) := glo_ok X G (d.fact 30)
  have g_within_brackets : mg "within_brackets" = some (.ref (ga K "within_brackets")) := glo_ok X G (d.fact 31)
  have g_step_text : mg "step_text" = some (.ref (ga K "step_text")) := glo_ok X G (d.fact 32)
  have g_text_around_one : mg "text_around_one" = some (.ref (ga K "text_around_one")) := glo_ok X G (d.fact 33)
  have g_text_around_two : mg "text_around_two" = some (.ref (ga K "text_around_two")) := glo_ok X G (d.fact 34)
  have g_refusal : mg "refusal" = some (.ref (ga K "refusal")) := glo_ok X G (d.fact 35)
  have g_choice_waits : mg "choice_waits" = some (.ref (ga K "choice_waits")) := glo_ok X G (d.fact 36)
  have g_may_at : mg "may_at" = some (.ref (ga K "may_at")) := glo_ok X G (d.fact 37)
  have g_names_told : mg "names_told" = some (.ref (ga K "names_told")) := glo_ok X G (d.fact 38)
  have g_text_told : mg "text_told" = some (.ref (ga K "text_told")) := glo_ok X G (d.fact 39)
  have g_answers : mg "answers" = some (.ref (ga K "answers")) := glo_ok X G (d.fact 40)
  have g_handed_over : mg "handed_over" = some (.ref (ga K "handed_over")) := glo_ok X G (d.fact 41)
  have g_counted : mg "counted" = some (.ref (ga K "counted")) := glo_ok X G (d.fact 42)
  have g_answer_to : mg "answer_to" = some (.ref (ga K "answer_to")) := glo_ok X G (d.fact 43)
  have g_Fault : mg "Fault" = some (.ref (ga K "Fault")) := glo_ok X G (d.fact 44)
  have g_Outcome : mg "Outcome" = some (.ref (ga K "Outcome")) := glo_ok X G (d.fact 45)
  have g_Standing : mg "Standing" = some (.ref (ga K "Standing")) := glo_ok X G (d.fact 46)
  have g_Line : mg "Line" = some (.ref (ga K "Line")) := glo_ok X G (d.fact 47)
  have g_PART_COUNTS : mg "PART_COUNTS" = some (.ref (ga K "PART_COUNTS")) := glo_ok X G (d.fact 48)
  have g_SIGNS : mg "SIGNS" = some (.ref (ga K "SIGNS")) := glo_ok X G (d.fact 49)
  have g_RULES : mg "RULES" = some (.ref (ga K "RULES")) := glo_ok X G (d.fact 50)
  have g_RULES_BY_TOKEN : mg "RULES_BY_TOKEN" = some (.ref (ga K "RULES_BY_TOKEN")) := glo_ok X G (d.fact 51)
  have g_WITH_DETAIL : mg "WITH_DETAIL" = some (.ref (ga K "WITH_DETAIL")) := glo_ok X G (d.fact 52)
  have g_NO_NAMES : mg "NO_NAMES" = some (.ref (ga K "NO_NAMES")) := glo_ok X G (d.fact 53)
  have g_CLOSENESS : mg "CLOSENESS" = some (.ref (ga K "CLOSENESS")) := glo_ok X G (d.fact 54)
  have g_PARTS_CLOSENESS : mg "PARTS_CLOSENESS" = some (.ref (ga K "PARTS_CLOSENESS")) := glo_ok X G (d.fact 55)
  have f_len : mg "len" = none := free_ok X G (d.fact 56)
  have f_range : mg "range" = none := free_ok X G (d.fact 57)
  have f_max : mg "max" = none := free_ok X G (d.fact 58)
  have f_min : mg "min" = none := free_ok X G (d.fact 59)
  have f_enumerate : mg "enumerate" = none := free_ok X G (d.fact 60)
  have f_zip : mg "zip" = none := free_ok X G (d.fact 61)
  have f_reversed : mg "reversed" = none := free_ok X G (d.fact 62)
  have f_isinstance : mg "isinstance" = none := free_ok X G (d.fact 63)
  have f_tuple : mg "tuple" = none := free_ok X G (d.fact 64)
  have f_str : mg "str" = none := free_ok X G (d.fact 65)
  have f_dict : mg "dict" = none := free_ok X G (d.fact 66)
  have f_ord : mg "ord" = none := free_ok X G (d.fact 67)
  have i_HOLDER : IntG mg "HOLDER" 0 := int_ok X G (d.fact 68)
  have i_OTHER_SIDE : IntG mg "OTHER_SIDE" 1 := int_ok X G (d.fact 69)
  have i_FIRST_LETTER : IntG mg "FIRST_LETTER" 97 := int_ok X G (d.fact 70)
  have i_FIRST_DIGIT : IntG mg "FIRST_DIGIT" 48 := int_ok X G (d.fact 71)
  have i_BLANK : IntG mg "BLANK" 32 := int_ok X G (d.fact 72)
  have i_LONGEST_WORD : IntG mg "LONGEST_WORD" 8 := int_ok X G (d.fact 73)
  have i_LONGEST_NUMBER : IntG mg "LONGEST_NUMBER" 7 := int_ok X G (d.fact 74)
  have i_MOST_NAMES : IntG mg "MOST_NAMES" 4 := int_ok X G (d.fact 75)
  have i_MOST_TAKEN_BACK : IntG mg "MOST_TAKEN_BACK" 32 := int_ok X G (d.fact 76)
  have i_DOES_NOT_FIT : IntG mg "DOES_NOT_FIT" 1 := int_ok X G (d.fact 77)
  have i_NONE_WAITS_THERE : IntG mg "NONE_WAITS_THERE" 2 := int_ok X G (d.fact 78)
  have i_NOT_OF_THAT_KIND : IntG mg "NOT_OF_THAT_KIND" 3 := int_ok X G (d.fact 79)
  have i_NO_DAY : IntG mg "NO_DAY" 4 := int_ok X G (d.fact 80)
  have i_CHOICE_WAITS : IntG mg "CHOICE_WAITS" 6 := int_ok X G (d.fact 81)
  have i_NOTHING_TO_TAKE_BACK : IntG mg "NOTHING_TO_TAKE_BACK" 7 := int_ok X G (d.fact 82)
  have i_NO_AGREEMENT : IntG mg "NO_AGREEMENT" 9 := int_ok X G (d.fact 83)
  have i_FAULT : IntG mg "FAULT" 10 := int_ok X G (d.fact 84)
  have i_OPEN_CALL : IntG mg "OPEN_CALL" 0 := int_ok X G (d.fact 85)
  have i_DAY_CALL : IntG mg "DAY_CALL" 1 := int_ok X G (d.fact 86)
  have i_WAITS_CALL : IntG mg "WAITS_CALL" 2 := int_ok X G (d.fact 87)
  have i_CHOOSE_CALL : IntG mg "CHOOSE_CALL" 3 := int_ok X G (d.fact 88)
  have i_BEGIN_CALL : IntG mg "BEGIN_CALL" 4 := int_ok X G (d.fact 89)
  have i_LEFT_CALL : IntG mg "LEFT_CALL" 5 := int_ok X G (d.fact 90)
  have i_PAID_CALL : IntG mg "PAID_CALL" 6 := int_ok X G (d.fact 91)
  have i_UNDO_CALL : IntG mg "UNDO_CALL" 7 := int_ok X G (d.fact 92)
  have s_LETTERS : StrG mg "LETTERS" Bd.LETT := str_ok X G (d.fact 93)
  have s_LONG : StrG mg "LONG_WORD" "otherwise" := str_ok X G (d.fact 94)
  have c_Outcome : Cls K (ga K "Outcome") := cls_ok (d.fact 95)
  have k_Outcome : Mk K (ga K "Outcome") (ma K (ga K "Outcome") "__init__") := mkr_ok (d.fact 98)
  have c_Standing : Cls K (ga K "Standing") := cls_ok (d.fact 96)
  have k_Standing : Mk K (ga K "Standing") (ma K (ga K "Standing") "__init__") := mkr_ok (d.fact 99)
  have c_Line : Cls K (ga K "Line") := cls_ok (d.fact 97)
  have k_Line : Mk K (ga K "Line") (ma K (ga K "Line") "__init__") := mkr_ok (d.fact 100)
  have n_Outcome_whole : NoAttr K (ga K "Outcome") "whole" := noat_ok (d.fact 101)
  have n_Outcome_left : NoAttr K (ga K "Outcome") "left" := noat_ok (d.fact 102)
  have n_Outcome_paid : NoAttr K (ga K "Outcome") "paid" := noat_ok (d.fact 103)
  have n_Standing_agreement : NoAttr K (ga K "Standing") "agreement" := noat_ok (d.fact 104)
  have n_Standing_next_day : NoAttr K (ga K "Standing") "next_day" := noat_ok (d.fact 105)
  have n_Standing_seen : NoAttr K (ga K "Standing") "seen" := noat_ok (d.fact 106)
  have n_Standing_payments : NoAttr K (ga K "Standing") "payments" := noat_ok (d.fact 107)
  have n_Line_now : NoAttr K (ga K "Line") "now" := noat_ok (d.fact 108)
  have n_Line_earlier : NoAttr K (ga K "Line") "earlier" := noat_ok (d.fact 109)
  have n_Line_names : NoAttr K (ga K "Line") "names" := noat_ok (d.fact 110)
  have m_take_up : Meth K (ga K "Line") "take_up" (ma K (ga K "Line") "take_up") := meth_ok (d.fact 111)
  have m_start_day : Meth K (ga K "Line") "start_day" (ma K (ga K "Line") "start_day") := meth_ok (d.fact 112)
  have m_waits : Meth K (ga K "Line") "waits" (ma K (ga K "Line") "waits") := meth_ok (d.fact 113)
  have m_choose : Meth K (ga K "Line") "choose" (ma K (ga K "Line") "choose") := meth_ok (d.fact 114)
  have m_begin : Meth K (ga K "Line") "begin" (ma K (ga K "Line") "begin") := meth_ok (d.fact 115)
  have m_tell_left : Meth K (ga K "Line") "tell_left" (ma K (ga K "Line") "tell_left") := meth_ok (d.fact 116)
  have m_tell_paid : Meth K (ga K "Line") "tell_paid" (ma K (ga K "Line") "tell_paid") := meth_ok (d.fact 117)
  have m_undo : Meth K (ga K "Line") "undo" (ma K (ga K "Line") "undo") := meth_ok (d.fact 118)
  have m_refused_within_a_day : Meth K (ga K "Line") "refused_within_a_day" (ma K (ga K "Line") "refused_within_a_day") := meth_ok (d.fact 119)
  have m_refused_of_one : Meth K (ga K "Line") "refused_of_one" (ma K (ga K "Line") "refused_of_one") := meth_ok (d.fact 120)
  have m_place_of : Meth K (ga K "Line") "place_of" (ma K (ga K "Line") "place_of") := meth_ok (d.fact 121)
  have m_settle : Meth K (ga K "Line") "settle" (ma K (ga K "Line") "settle") := meth_ok (d.fact 122)
  have m_move_on : Meth K (ga K "Line") "move_on" (ma K (ga K "Line") "move_on") := meth_ok (d.fact 123)
  obtain ⟨fd_nothing, F_nothing⟩ := fF d "nothing" 5 0 rfl
  obtain ⟨fd_number_steps, F_number_steps⟩ := fF d "number_steps" 6 1 rfl
  obtain ⟨fd_joined, F_joined⟩ := fF d "joined" 7 2 rfl
  obtain ⟨fd_taken_parts, F_taken_parts⟩ := fF d "taken_parts" 8 3 rfl
  obtain ⟨fd_part_start, F_part_start⟩ := fF d "part_start" 9 4 rfl
  obtain ⟨fd_reckoned, F_reckoned⟩ := fF d "reckoned" 11 5 rfl
  obtain ⟨fd_combined, F_combined⟩ := fF d "combined" 12 6 rfl
  obtain ⟨fd_compared, F_compared⟩ := fF d "compared" 13 7 rfl
  obtain ⟨fd_settled, F_settled⟩ := fF d "settled" 14 8 rfl
  obtain ⟨fd_gone_through, F_gone_through⟩ := fF d "gone_through" 19 9 rfl
  obtain ⟨fd_step_outcome, F_step_outcome⟩ := fF d "step_outcome" 20 10 rfl
  obtain ⟨fd_times_outcome, F_times_outcome⟩ := fF d "times_outcome" 21 11 rfl
  obtain ⟨fd_both_left, F_both_left⟩ := fF d "both_left" 22 12 rfl
  obtain ⟨fd_left_within, F_left_within⟩ := fF d "left_within" 23 13 rfl
  obtain ⟨fd_waiting_in, F_waiting_in⟩ := fF d "waiting_in" 24 14 rfl
  obtain ⟨fd_waiting_at, F_waiting_at⟩ := fF d "waiting_at" 25 15 rfl
  obtain ⟨fd_exchanged, F_exchanged⟩ := fF d "exchanged" 26 16 rfl
  obtain ⟨fd_choice_made, F_choice_made⟩ := fF d "choice_made" 27 17 rfl
  obtain ⟨fd_begun, F_begun⟩ := fF d "begun" 28 18 rfl
  obtain ⟨fd_agreement_of, F_agreement_of⟩ := fF d "agreement_of" 33 19 rfl
  obtain ⟨fd_put_goals, F_put_goals⟩ := fF d "put_goals" 34 20 rfl
  obtain ⟨fd_make_step, F_make_step⟩ := fF d "make_step" 35 21 rfl
  obtain ⟨fd_tokens_of, F_tokens_of⟩ := fF d "tokens_of" 46 22 rfl
  obtain ⟨fd_is_letter, F_is_letter⟩ := fF d "is_letter" 47 23 rfl
  obtain ⟨fd_is_digit, F_is_digit⟩ := fF d "is_digit" 48 24 rfl
  obtain ⟨fd_word_end, F_word_end⟩ := fF d "word_end" 49 25 rfl
  obtain ⟨fd_number_end, F_number_end⟩ := fF d "number_end" 50 26 rfl
  obtain ⟨fd_word_token, F_word_token⟩ := fF d "word_token" 51 27 rfl
  obtain ⟨fd_number_token, F_number_token⟩ := fF d "number_token" 52 28 rfl
  obtain ⟨fd_names_of, F_names_of⟩ := fF d "names_of" 53 29 rfl
  obtain ⟨fd_written, F_written⟩ := fF d "written" 57 30 rfl
  obtain ⟨fd_within_brackets, F_within_brackets⟩ := fF d "within_brackets" 58 31 rfl
  obtain ⟨fd_step_text, F_step_text⟩ := fF d "step_text" 59 32 rfl
  obtain ⟨fd_text_around_one, F_text_around_one⟩ := fF d "text_around_one" 60 33 rfl
  obtain ⟨fd_text_around_two, F_text_around_two⟩ := fF d "text_around_two" 61 34 rfl
  obtain ⟨fd_refusal, F_refusal⟩ := fF d "refusal" 75 35 rfl
  obtain ⟨fd_choice_waits, F_choice_waits⟩ := fF d "choice_waits" 76 36 rfl
  obtain ⟨fd_may_at, F_may_at⟩ := fF d "may_at" 77 37 rfl
  obtain ⟨fd_names_told, F_names_told⟩ := fF d "names_told" 78 38 rfl
  obtain ⟨fd_text_told, F_text_told⟩ := fF d "text_told" 79 39 rfl
  obtain ⟨fd_answers, F_answers⟩ := fF d "answers" 89 40 rfl
  obtain ⟨fd_handed_over, F_handed_over⟩ := fF d "handed_over" 90 41 rfl
  obtain ⟨fd_counted, F_counted⟩ := fF d "counted" 91 42 rfl
  obtain ⟨fd_answer_to, F_answer_to⟩ := fF d "answer_to" 92 43 rfl
  obtain ⟨fd_Outcome___init__, F_Outcome___init__⟩ := fM d "Outcome" "__init__" "Outcome.__init__" 18 0 45 rfl
  obtain ⟨fd_Standing___init__, F_Standing___init__⟩ := fM d "Standing" "__init__" "Standing.__init__" 73 0 46 rfl
  obtain ⟨fd_Line___init__, F_Line___init__⟩ := fM d "Line" "__init__" "Line.__init__" 74 0 47 rfl
  obtain ⟨fd_Line_take_up, F_Line_take_up⟩ := fM d "Line" "take_up" "Line.take_up" 74 1 48 rfl
  obtain ⟨fd_Line_start_day, F_Line_start_day⟩ := fM d "Line" "start_day" "Line.start_day" 74 2 49 rfl
  obtain ⟨fd_Line_waits, F_Line_waits⟩ := fM d "Line" "waits" "Line.waits" 74 3 50 rfl
  obtain ⟨fd_Line_choose, F_Line_choose⟩ := fM d "Line" "choose" "Line.choose" 74 4 51 rfl
  obtain ⟨fd_Line_begin, F_Line_begin⟩ := fM d "Line" "begin" "Line.begin" 74 5 52 rfl
  obtain ⟨fd_Line_tell_left, F_Line_tell_left⟩ := fM d "Line" "tell_left" "Line.tell_left" 74 6 53 rfl
  obtain ⟨fd_Line_tell_paid, F_Line_tell_paid⟩ := fM d "Line" "tell_paid" "Line.tell_paid" 74 7 54 rfl
  obtain ⟨fd_Line_undo, F_Line_undo⟩ := fM d "Line" "undo" "Line.undo" 74 8 55 rfl
  obtain ⟨fd_Line_refused_within_a_day, F_Line_refused_within_a_day⟩ := fM d "Line" "refused_within_a_day" "Line.refused_within_a_day" 74 9 56 rfl
  obtain ⟨fd_Line_refused_of_one, F_Line_refused_of_one⟩ := fM d "Line" "refused_of_one" "Line.refused_of_one" 74 10 57 rfl
  obtain ⟨fd_Line_place_of, F_Line_place_of⟩ := fM d "Line" "place_of" "Line.place_of" 74 11 58 rfl
  obtain ⟨fd_Line_settle, F_Line_settle⟩ := fM d "Line" "settle" "Line.settle" 74 12 59 rfl
  obtain ⟨fd_Line_move_on, F_Line_move_on⟩ := fM d "Line" "move_on" "Line.move_on" 74 13 60 rfl
  obtain ⟨x1, x0⟩ := ba x0
  obtain ⟨x2, x0⟩ := ba x0
  obtain ⟨x3, x0⟩ := ba x0
  obtain ⟨x4, x0⟩ := ba x0
  obtain ⟨x5, x0⟩ := ba x0
  obtain ⟨x6, x0⟩ := ba x0
  obtain ⟨x7, x0⟩ := ba x0
  obtain ⟨x8, x0⟩ := ba x0
  obtain ⟨x9, x0⟩ := ba x0
  obtain ⟨x10, x0⟩ := ba x0
  obtain ⟨x11, x12⟩ := ba x0
  have t0 := tb c
  have t1 : dicW K (ga K "PART_COUNTS") = some (keysIn w.params (COUNTS.map (·.1))) := by injection t0
  have t2 : dicW K (ga K "CLOSENESS") = some (keysIn w.params closKs) := by injection t0 with _ t0; injection t0
  have t3 : dicW K (ga K "PARTS_CLOSENESS") = some (keysIn w.params closKs) := by injection t0 with _ t0; injection t0 with _ t0; injection t0
  have TF : PySem.FaultX.FaultTxt K mg (ga K "Fault") (ma K (ga K "Fault") "__init__") := by
    obtain ⟨fdI, HI⟩ := d.def_ 44
    obtain ⟨p1, p2, q1, q2, q3, q4, e1, e2, e3⟩ := init_at
    have HI2 : FunD K "__init__" "Fault.__init__" (L2.defArgs (L2.inClass (Bd.top 1) 0)) (L2.defBody (L2.inClass (Bd.top 1) 0)) (L2.defScope (L2.inClass (Bd.top 1) 0)) [] [] (ma K (ga K "Fault") "__init__") fdI := HI
    rw [e1, e2, e3] at HI2
    exact flt_of g_Fault x1 HI2
  have tCounts : CountsG w K mg := counts_of g_PART_COUNTS t1 x4
  have tClos : ClosG w K mg := clos_of g_CLOSENESS t2 x5
  have tKids : KidsG w K mg := kids_of g_PARTS_CLOSENESS t3 x6
  have tSigns : SignsG Bd.PP w K mg := signs_of g_SIGNS x7 (tS c) x8
  have tRules : ByRuleG Bd.PP w K mg := byRule_of g_RULES x9 (tR c) x10
  have tTok : ByTokG Bd.PP w K mg := byTok_of g_RULES_BY_TOKEN x11 (tT c) x12
  have tDetail : TupG K mg "WITH_DETAIL" (WITHD.map V.str) := ⟨_, g_WITH_DETAIL, fun H => tupB_ok (vs := WITHD.map Dv.str) x2 H⟩
  have tNo : ∀ H, SqT K H (ga K "NO_NAMES") (NOT_NAMES.map V.str) := fun H => tupB_ok (vs := NOT_NAMES.map Dv.str) x3 H
  have TO : OutTxt K (ga K "Outcome") := ⟨c_Outcome, n_Outcome_whole, n_Outcome_left, n_Outcome_paid⟩
  have TS : StdTxt K (ga K "Standing") := ⟨c_Standing, n_Standing_agreement, n_Standing_next_day, n_Standing_seen, n_Standing_payments⟩
  have TL : LineTxt K (ga K "Line") := ⟨c_Line, n_Line_now, n_Line_earlier, n_Line_names⟩
  refine ⟨fd_answers, F_answers, g_answers, fun base => ?_⟩
  have G_is_letter : FnOk Bd.PP w K mg base CX0 1 (ga K "is_letter") fd_is_letter ["byte"] spLetter := ok_letter F_is_letter i_FIRST_LETTER
  have G_is_digit : FnOk Bd.PP w K mg base CX0 1 (ga K "is_digit") fd_is_digit ["byte"] spDigit := ok_digit F_is_digit i_FIRST_DIGIT
  have G_word_end : FnOk Bd.PP w K mg base CX0 2 (ga K "word_end") fd_word_end ["text", "place"] (spWordEnd K) := ok_wordEnd F_word_end F_is_letter g_is_letter f_len i_FIRST_LETTER
  have G_number_end : FnOk Bd.PP w K mg base CX0 2 (ga K "number_end") fd_number_end ["text", "place"] (spNumEnd K) := ok_numEnd F_number_end F_is_digit g_is_digit f_len i_FIRST_DIGIT
  have G_word_token : FnOk Bd.PP w K mg base (L2N.CX Bd.PP w) 3 (ga K "word_token") fd_word_token ["text", "place", "behind"] (spWordTok (ga K "Fault") K) := ok_wordTok F_word_token TF s_LETTERS i_FIRST_LETTER i_LONGEST_WORD s_LONG f_len _ g_NO_NAMES tNo
  have G_number_token : FnOk Bd.PP w K mg base (L2N.CX Bd.PP w) 3 (ga K "number_token") fd_number_token ["text", "place", "behind"] (spNumTok (ga K "Fault") K) := ok_numTok F_number_token TF i_LONGEST_NUMBER i_FIRST_DIGIT
  have G_tokens_of : FnOk Bd.PP w K mg base (L2N.CX Bd.PP w) 4 (ga K "tokens_of") fd_tokens_of ["text"] (spTokens (ga K "Fault") K) := ok_tokens F_tokens_of TF F_is_letter g_is_letter (G_is_letter) F_is_digit g_is_digit (G_is_digit) F_word_end g_word_end (G_word_end) F_number_end g_number_end (G_number_end) F_word_token g_word_token (G_word_token) F_number_token g_number_token (G_number_token) i_BLANK f_len tSigns
  have G_names_of : FnOk Bd.PP w K mg base CX0 1 (ga K "names_of") fd_names_of ["tokens"] spNames := ok_names F_names_of
  have G_taken_parts : FnOk Bd.PP w K mg base CX0 1 (ga K "taken_parts") fd_taken_parts ["stack", "word"] spTaken := ok_taken F_taken_parts tCounts f_range
  have G_joined : FnOk Bd.PP w K mg base CX0 1 (ga K "joined") fd_joined ["parts", "step"] spJoin := ok_join F_joined
  have GL_joined : FnOk Bd.PP w K mg base CX0 1 (ga K "joined") fd_joined ["parts", "step"] spJoinL := ok_joinL F_joined
  have G_nothing : FnOk Bd.PP w K mg base CX0 1 (ga K "nothing") fd_nothing [] spNothing := ok_nothing F_nothing
  have G_number_steps : FnOk Bd.PP w K mg base CX0 1 (ga K "number_steps") fd_number_steps ["number"] spNumSt := ok_numSt F_number_steps
  have G_part_start : FnOk Bd.PP w K mg base CX0 1 (ga K "part_start") fd_part_start ["steps", "last"] spPart := ok_part F_part_start tCounts
  have G_combined : FnOk Bd.PP w K mg base CX0 1 (ga K "combined") fd_combined ["word", "left", "right"] spComb := ok_comb F_combined f_max f_min
  have G_compared : FnOk Bd.PP w K mg base CX0 1 (ga K "compared") fd_compared ["word", "left", "right"] spComp := ok_comp F_compared
  have G_settled : FnOk Bd.PP w K mg base CX0 1 (ga K "settled") fd_settled ["word", "parts"] spSett := ok_sett F_settled
  have G_reckoned : FnOk Bd.PP w K mg base CX0 2 (ga K "reckoned") fd_reckoned ["steps", "seen"] spReck := ok_reck F_reckoned F_taken_parts g_taken_parts (G_taken_parts) F_combined g_combined (G_combined) F_compared g_compared (G_compared) F_settled g_settled (G_settled)
  have G_exchanged : FnOk Bd.PP w K mg base CX0 1 (ga K "exchanged") fd_exchanged ["side"] spExch := ok_exch F_exchanged i_HOLDER i_OTHER_SIDE
  have G_left_within : FnOk Bd.PP w K mg base CX0 2 (ga K "left_within") fd_left_within ["left", "step"] spWithin := ok_within F_left_within F_nothing g_nothing (G_nothing) F_joined g_joined (G_joined)
  have G_both_left : FnOk Bd.PP w K mg base CX0 2 (ga K "both_left") fd_both_left ["first", "second"] spBoth := ok_both F_both_left F_nothing g_nothing (G_nothing) F_joined g_joined (G_joined)
  have G_times_outcome : FnOk Bd.PP w K mg base CX0 3 (ga K "times_outcome") fd_times_outcome ["factor", "part"] (spTimes (ga K "Outcome")) := ok_times F_times_outcome TO F_nothing g_nothing (G_nothing) F_left_within g_left_within (G_left_within) F_number_steps g_number_steps (G_number_steps)
  have G_step_outcome : FnOk Bd.PP w K mg base CX0 4 (ga K "step_outcome") fd_step_outcome ["step", "parts", "whole", "day", "seen"] (spStepO (ga K "Outcome")) := ok_stepO F_step_outcome TO F_nothing g_nothing (G_nothing) F_left_within g_left_within (G_left_within) F_reckoned g_reckoned (G_reckoned) F_both_left g_both_left (G_both_left) F_times_outcome g_times_outcome (G_times_outcome)
  have G_Outcome___init__ : FnOk Bd.PP w K mg base CX0 1 (ma K (ga K "Outcome") "__init__") fd_Outcome___init__ ["self", "whole", "left", "paid"] (spOutI (ga K "Outcome")) := ok_outI F_Outcome___init__ TO
  have G_gone_through : FnOk Bd.PP w K mg base CX0 5 (ga K "gone_through") fd_gone_through ["agreement", "day", "seen"] (spGone (ga K "Outcome")) := ok_gone F_gone_through TO g_Outcome k_Outcome F_Outcome___init__ G_Outcome___init__ F_taken_parts g_taken_parts (G_taken_parts) F_joined g_joined (G_joined) F_step_outcome g_step_outcome (G_step_outcome)
  have G_waiting_at : FnOk Bd.PP w K mg base CX0 2 (ga K "waiting_at") fd_waiting_at ["place", "word", "within"] spWaitAt := ok_waitAt F_waiting_at F_exchanged g_exchanged (G_exchanged) i_HOLDER i_OTHER_SIDE
  have G_waiting_in : FnOk Bd.PP w K mg base CX0 3 (ga K "waiting_in") fd_waiting_in ["agreement"] spWaitIn := ok_waitIn F_waiting_in f_enumerate F_taken_parts g_taken_parts (G_taken_parts) F_waiting_at g_waiting_at (G_waiting_at)
  have G_choice_made : FnOk Bd.PP w K mg base CX0 2 (ga K "choice_made") fd_choice_made ["agreement", "place", "which"] spChoice := ok_choice F_choice_made F_part_start g_part_start (G_part_start)
  have G_begun : FnOk Bd.PP w K mg base CX0 1 (ga K "begun") fd_begun ["agreement", "place"] spBegun := ok_begun F_begun
  have G_refusal : FnOk Bd.PP w K mg base CX0 1 (ga K "refusal") fd_refusal ["number"] spRefusal := ok_refusal F_refusal
  have G_may_at : FnOk Bd.PP w K mg base CX0 1 (ga K "may_at") fd_may_at ["agreement", "place"] spMayAt := ok_mayAt F_may_at
  have G_text_told : FnOk Bd.PP w K mg base CX0 1 (ga K "text_told") fd_text_told ["text"] spTold := ok_told F_text_told f_len f_ord
  have G_names_told : FnOk Bd.PP w K mg base CX0 2 (ga K "names_told") fd_names_told ["names"] spNamesTold := ok_namesTold F_names_told f_len F_text_told g_text_told (G_text_told)
  have G_choice_waits : FnOk Bd.PP w K mg base CX0 4 (ga K "choice_waits") fd_choice_waits ["agreement"] spChoiceW := ok_choiceW F_choice_waits F_waiting_in g_waiting_in (G_waiting_in) F_may_at g_may_at (G_may_at)
  have G_put_goals : FnOk Bd.PP w K mg base (L2N.CX Bd.PP w) 3 (ga K "put_goals") fd_put_goals ["goals", "goal", "kind", "place"] (spPut (ga K "Fault") K) := ok_put F_put_goals TF tTok tRules f_reversed
  have G_make_step : FnOk Bd.PP w K mg base CX0 2 (ga K "make_step") fd_make_step ["word", "made"] spMake := ok_make F_make_step tDetail F_taken_parts g_taken_parts (G_taken_parts) F_joined g_joined GL_joined
  have G_agreement_of : FnOk Bd.PP w K mg base (L2N.CX Bd.PP w) 4 (ga K "agreement_of") fd_agreement_of ["tokens"] (spAgr (ga K "Fault")) := ok_agr F_agreement_of f_isinstance f_tuple F_make_step g_make_step (G_make_step) F_put_goals g_put_goals (G_put_goals)
  have G_written : FnOk Bd.PP w K mg base CX0 7 (ga K "written") fd_written ["steps"] (spWr Wr2) := ok_writtenA F_written g_written f_zip tKids tClos f_str f_len F_taken_parts g_taken_parts (G_taken_parts) F_within_brackets g_within_brackets F_step_text g_step_text F_text_around_one g_text_around_one F_text_around_two g_text_around_two
  have G_Standing___init__ : FnOk Bd.PP w K mg base CX0 1 (ma K (ga K "Standing") "__init__") fd_Standing___init__ ["self", "agreement", "next_day", "seen", "payments"] (spStdI (ga K "Standing")) := ok_stdI F_Standing___init__ TS
  have G_Line___init__ : FnOk Bd.PP w K mg base CX0 1 (ma K (ga K "Line") "__init__") fd_Line___init__ ["self"] (spLnI (ga K "Line")) := ok_lnI F_Line___init__ TL
  have G_Line_refused_within_a_day : FnOk Bd.PP w K mg base CX0 2 (ma K (ga K "Line") "refused_within_a_day") fd_Line_refused_within_a_day ["self"] (spRefW (ga K "Standing") (ga K "Line")) := ok_refW F_Line_refused_within_a_day TL TS i_NO_AGREEMENT i_NO_DAY F_refusal g_refusal (G_refusal)
  have G_Line_place_of : FnOk Bd.PP w K mg base CX0 4 (ma K (ga K "Line") "place_of") fd_Line_place_of ["self", "number"] (spPlaceOf (ga K "Standing") (ga K "Line")) := ok_placeOf F_Line_place_of TL TS F_waiting_in g_waiting_in (G_waiting_in)
  have G_Line_move_on : FnOk Bd.PP w K mg base CX0 1 (ma K (ga K "Line") "move_on") fd_Line_move_on ["self", "standing"] (spMoveOn (ga K "Standing") (ga K "Line")) := ok_moveOn F_Line_move_on TL i_MOST_TAKEN_BACK
  have G_Line_refused_of_one : FnOk Bd.PP w K mg base CX0 5 (ma K (ga K "Line") "refused_of_one") fd_Line_refused_of_one ["self", "number", "is_may"] (spRefO (ga K "Standing") (ga K "Line")) := ok_refO F_Line_refused_of_one TL TS i_NONE_WAITS_THERE i_NOT_OF_THAT_KIND f_len F_refusal g_refusal (G_refusal) F_waiting_in g_waiting_in (G_waiting_in) F_may_at g_may_at (G_may_at) F_Line_refused_within_a_day m_refused_within_a_day G_Line_refused_within_a_day F_Line_place_of m_place_of G_Line_place_of
  have G_Line_settle : FnOk Bd.PP w K mg base CX0 6 (ma K (ga K "Line") "settle") fd_Line_settle ["self", "agreement"] (spSettle (ga K "Standing") (ga K "Line")) := ok_settle F_Line_settle TL TS g_Standing k_Standing F_Standing___init__ G_Standing___init__ F_gone_through g_gone_through (G_gone_through) F_Line_move_on m_move_on G_Line_move_on
  have G_Line_undo : FnOk Bd.PP w K mg base CX0 2 (ma K (ga K "Line") "undo") fd_Line_undo ["self"] (spUndo (ga K "Standing") (ga K "Line")) := ok_undo F_Line_undo TL i_NOTHING_TO_TAKE_BACK f_len F_refusal g_refusal (G_refusal)
  have G_Line_tell_left : FnOk Bd.PP w K mg base CX0 8 (ma K (ga K "Line") "tell_left") fd_Line_tell_left ["self"] (spLeft (ga K "Standing") (ga K "Line")) := ok_left F_Line_tell_left TL TS i_NO_AGREEMENT F_refusal g_refusal (G_refusal) F_text_told g_text_told (G_text_told) F_written g_written (G_written)
  have G_Line_tell_paid : FnOk Bd.PP w K mg base CX0 2 (ma K (ga K "Line") "tell_paid") fd_Line_tell_paid ["self"] (spPaid (ga K "Standing") (ga K "Line")) := ok_paid F_Line_tell_paid TL TS i_NO_AGREEMENT f_len F_refusal g_refusal (G_refusal)
  have G_Line_waits : FnOk Bd.PP w K mg base CX0 4 (ma K (ga K "Line") "waits") fd_Line_waits ["self"] (spWaits (ga K "Standing") (ga K "Line")) := ok_waits F_Line_waits TL TS f_len F_waiting_in g_waiting_in (G_waiting_in) F_may_at g_may_at (G_may_at) F_Line_refused_within_a_day m_refused_within_a_day G_Line_refused_within_a_day
  have G_Line_choose : FnOk Bd.PP w K mg base CX0 7 (ma K (ga K "Line") "choose") fd_Line_choose ["self", "number", "which"] (spChoose (ga K "Standing") (ga K "Line")) := ok_choose F_Line_choose TL TS i_DOES_NOT_FIT F_refusal g_refusal (G_refusal) F_choice_made g_choice_made (G_choice_made) F_Line_refused_of_one m_refused_of_one G_Line_refused_of_one F_Line_place_of m_place_of G_Line_place_of F_Line_settle m_settle G_Line_settle
  have G_Line_begin : FnOk Bd.PP w K mg base CX0 7 (ma K (ga K "Line") "begin") fd_Line_begin ["self", "number"] (spBegin (ga K "Standing") (ga K "Line")) := ok_begin F_Line_begin TL TS F_begun g_begun (G_begun) F_Line_refused_of_one m_refused_of_one G_Line_refused_of_one F_Line_place_of m_place_of G_Line_place_of F_Line_settle m_settle G_Line_settle
  have G_Line_start_day : FnOk Bd.PP w K mg base CX0 6 (ma K (ga K "Line") "start_day") fd_Line_start_day ["self", "numbers"] (spDay (ga K "Standing") (ga K "Line")) := ok_day F_Line_start_day TL TS i_NO_AGREEMENT i_DOES_NOT_FIT i_CHOICE_WAITS f_len f_dict f_zip g_Standing k_Standing F_Standing___init__ G_Standing___init__ F_refusal g_refusal (G_refusal) F_choice_waits g_choice_waits (G_choice_waits) F_gone_through g_gone_through (G_gone_through) F_Line_move_on m_move_on G_Line_move_on
  have G_Line_take_up : FnOk Bd.PP w K mg base CX0 5 (ma K (ga K "Line") "take_up") fd_Line_take_up ["self", "day", "text"] (spTake (ga K "Standing") (ga K "Line")) := ok_take F_Line_take_up TL TF i_FAULT i_DOES_NOT_FIT i_MOST_NAMES f_len g_Standing k_Standing F_Standing___init__ G_Standing___init__ F_refusal g_refusal (G_refusal) F_tokens_of g_tokens_of (G_tokens_of) F_agreement_of g_agreement_of (G_agreement_of) F_names_of g_names_of (G_names_of) F_names_told g_names_told (G_names_told)
  have G_counted : FnOk Bd.PP w K mg base CX0 1 (ga K "counted") fd_counted ["calls", "place"] (spCounted K) := ok_counted F_counted
  have G_handed_over : FnOk Bd.PP w K mg base CX0 2 (ga K "handed_over") fd_handed_over ["calls", "place"] (spHand K) := ok_hand F_handed_over f_range F_counted g_counted (G_counted)
  have G_answer_to : FnOk Bd.PP w K mg base CX0 9 (ga K "answer_to") fd_answer_to ["line", "call", "numbers", "lists"] (spAnsTo (ga K "Standing") (ga K "Line")) := ok_ansTo F_answer_to TL i_OPEN_CALL i_DAY_CALL i_WAITS_CALL i_CHOOSE_CALL i_BEGIN_CALL i_LEFT_CALL i_PAID_CALL i_UNDO_CALL F_Line_take_up m_take_up G_Line_take_up F_Line_start_day m_start_day G_Line_start_day F_Line_waits m_waits G_Line_waits F_Line_choose m_choose G_Line_choose F_Line_begin m_begin G_Line_begin F_Line_tell_left m_tell_left G_Line_tell_left F_Line_tell_paid m_tell_paid G_Line_tell_paid F_Line_undo m_undo G_Line_undo
  exact ok_ans F_answers f_len g_Line k_Line F_Line___init__ G_Line___init__ F_handed_over g_handed_over (G_handed_over) F_answer_to g_answer_to (G_answer_to)
end
end Hk
end
section
set_option Elab.async false
set_option linter.all false
set_option maxRecDepth 100000
set_option maxHeartbeats 4000000
set_option autoImplicit false
open PySem PySem.W PySem.Calls PyProof.Rows HdX
theorem PySem.Challenge.cw_dayagreement_s01_answers_holds : PySem.Challenge.rw_dayagreement_s01_answers.Holds := by
  refine holds_from (r := PySem.Challenge.rw_dayagreement_s01_answers) (q := HdP.qv) (loose := HdP.loose) (YP := HdP.hk.says) (d := HandSHeadRun.topDef HdP.P 89) (kwd := []) HdP.stands HdP.hk.keeps
    (by kernel_rfl) (by kernel_rfl) (by kernel_rfl) os_shapes (by decide +kernel) (by decide +kernel) ⟨rfl, rfl, rfl, rfl, rfl, by decide +kernel⟩ ⟨[.list [.int 2, .int 0, .int 0]], by decide +kernel, by decide +kernel⟩ ?_
  refine walk_here (k := 60) (ps := ["calls"]) (sp := Bd.spAns) (by decide +kernel) rfl ⟨rfl, by decide, by decide⟩ ?F ?S
  case F =>
    intro w mg fa h Y G hmg0
    obtain ⟨K, KX, c⟩ := Y
    obtain ⟨fd, F, g, A⟩ := Hk.promise KX G c
    have ea : fa = He.ga K "answers" := by
      have e : mg "answers" = some (.ref fa) := hmg0
      rw [g] at e
      exact (Value.ref.inj (Option.some.inj e)).symm
    subst ea
    refine ⟨K, fd, KX, ?_, fun base _ _ => (A base).mono (by decide)⟩
    obtain ⟨oc, od, kV, doc, pm, an, cdv, ct, osl, rfl, lk, hcd⟩ := F.ex
    exact fun s us hl => BindsTo.of_eq (match us, hl with | [_], _ => rfl)
  case S =>
    intro K H xs a hO hwi hask hx
    cases hx with
    | cons h1 h2 =>
      cases h2
      cases h1 with
      | lst hs ha =>
        have e := L2.ints_dw a.1 _ ha
        subst e
        exact ⟨_, a.1, rfl, hs, hask, fun H' p hp => .lst (L2.SqL.of hp) (L2.dw_ints _)⟩
end
