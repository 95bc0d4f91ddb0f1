import PyProof.Rows.All
import Wide.All
import OpenK.AllK
import Wide.FinOn
import PySem.Str
import HandS.ForMost
import HandS.Walk
import HandS.Exc
import HandS.CallSlots
import HandS.IsInst
import HandS.TupAny
import HandS.TupMul
import HandS.Style
import HandS.Conv
import HandS.SortInts
import HandS.Strs
import HandS.Zip
import HandS.Wide
import HandS.ExcOwn
import HandS.Rev
import HandS.Iter
import HandS.Comp
import HandS.List
import HandS.More
import PyProof.EqAt
import PyProof.EqKinds
import PyProof.TupleCall
import Open.SpecLaws
import KE.OsGo
import HandS.ForSpec
import HandS.EndBits
import HandS.Ends
import HandS.WordsExc
import HandS.Defaults
import PyProof.ReprRoads
import PyProof.ReprBulk
import PyProof.FitsInt
import HandS.SetFor
import PyProof.Rows.SetFrom
import KE.GoesEnum
import PySem.Challenge.RW_bodyforbody_k05_whole_falling_rows
/-! RxCore -/
/-! RxCore: a small language of whole values, and what its programs mean (total functions). No memory, no machine:
the values are trees; a list that is still being filled belongs to one slot alone. -/
namespace Rx
open PySem (Str)

/-- a value, whole -/
inductive D where
  | non | bl (b : Bool) | int (i : Int) | str (x : Str) | tup (xs : List D) | lst (xs : List D) | ins (c : Nat) (fs : List D)
  deriving Inhabited

/-- what a slot holds: a value that never changes again, a list of one's own (io: the caller's, lent), the law's deal, a caught exception -/
inductive M where
  | val (d : D) | own (io : Bool) (xs : List D) | deal (io : Bool) (big : Nat × List Int) (seed : Int) | ex (c : Nat) (d : D)
  deriving Inhabited

abbrev Env := List (Option M)

mutual
def D.eqv : D → D → Bool
  | .non, .non => true
  | .bl a, .bl b => a == b
  | .bl a, .int j => (if a then 1 else 0) == j
  | .int i, .bl b => i == (if b then 1 else 0)
  | .int i, .int j => i == j
  | .str x, .str y => x == y
  | .lst xs, .lst ys => D.eqvs xs ys
  | .tup xs, .tup ys => D.eqvs xs ys
  | _, _ => false
def D.eqvs : List D → List D → Bool
  | [], [] => true
  | x :: xs, y :: ys => D.eqv x y && D.eqvs xs ys
  | _, _ => false
end

/-- texts that are written in a program, short -/
def strSmall (x : Str) : Bool := decide (x.cps.size ≤ 1000) && x.cps.all fun c => decide (c < 1114112)

mutual
/-- data of which == is asked: no instance in it, small texts, not too deep -/
def D.flat : Nat → D → Bool
  | _, .non | _, .bl _ | _, .int _ => true
  | _, .str x => strSmall x
  | 0, _ => false
  | n + 1, .tup xs => D.flats n xs
  | n + 1, .lst xs => D.flats n xs
  | _, .ins _ _ => false
def D.flats : Nat → List D → Bool
  | _, [] => true
  | n, x :: xs => D.flat n x && D.flats n xs
end

/-- the longest list -/
def maxLen : Nat := 16777216

/-- an index of any sign -/
def place (n : Nat) (i : Int) : Option Nat := if 0 ≤ i then (if i < n then some i.toNat else none) else if -(n : Int) ≤ i then some (i + n).toNat else none
def bound (n d : Nat) : Option Int → Nat
  | none => d
  | some v => if v < 0 then (v + (n : Int)).toNat else min v.toNat n
def cut (xs : List D) (lo hi : Option Int) : List D := (xs.drop (bound xs.length 0 lo)).take (bound xs.length xs.length hi - bound xs.length 0 lo)

def ints? : List D → Option (List Int)
  | [] => some []
  | .int i :: r => (ints? r).map (i :: ·)
  | _ :: _ => none
def bools? : List D → Option (List Bool)
  | [] => some []
  | .bl b :: r => (bools? r).map (b :: ·)
  | _ :: _ => none

def least : Int → List Int → Int
  | m, [] => m
  | m, x :: r => least (if x < m then x else m) r
def greatest : Int → List Int → Int
  | m, [] => m
  | m, x :: r => greatest (if x > m then x else m) r

def insertS (x : Int) : List Int → List Int
  | [] => [x]
  | y :: r => if x ≤ y then x :: y :: r else y :: insertS x r
def sortI (xs : List Int) : List Int := xs.foldr insertS []
/-- sorted, each once -/
def insertU (x : Int) : List Int → List Int
  | [] => [x]
  | y :: r => if x < y then x :: y :: r else if x = y then y :: r else y :: insertU x r
def sortU (xs : List Int) : List Int := xs.foldr insertU []

inductive Ty where
  | tInt | tBool | tStr | tList | tTuple | tSeq | tIns (c : Nat)
  deriving DecidableEq

def isa : D → Ty → Bool
  | .int _, .tInt => true
  | .bl _, .tInt => true
  | .bl _, .tBool => true
  | .str _, .tStr => true
  | .lst _, .tList => true
  | .tup _, .tTuple => true
  | .lst _, .tSeq => true
  | .tup _, .tSeq => true
  | .ins c _, .tIns k => c == k
  | _, _ => false

inductive Op where
  | add | sub | mul | fdiv | mod | pow | neg
  | eq | ne | lt | le | gt | ge | isN | notN | isB (b : Bool) | notB (b : Bool) | in_ | nin
  | ix | sl (lo hi : Bool) | rev
  | len | abs | int | bool | list | tuple | sum | max2 | min2 | maxl | minl | sorted | sortset | all | any
  | rng | trng | isa (t : Ty)
  deriving DecidableEq

/-- what an operation gives: a value, or a new list -/
inductive Z where
  | val (d : D) | new (xs : List D)

/-- truth -/
def truth : D → Option Bool
  | .non => some false
  | .bl b => some b
  | .int i => some (i != 0)
  | .str _ => none
  | .tup xs => some (!xs.isEmpty)
  | .lst xs => some (!xs.isEmpty)
  | .ins _ _ => none

/-- flat things: what «in» is asked of -/
def D.leaf : D → Bool
  | .non | .bl _ | .int _ => true
  | .str _ => true
  | _ => false

def rangeL (n : Nat) : List D := (List.range n).map fun (k : Nat) => .int (k : Int)


mutual
/-- the same tree -/
def D.same : D → D → Bool
  | .non, .non => true
  | .bl a, .bl b => a == b
  | .int i, .int j => i == j
  | .str x, .str y => x == y
  | .lst xs, .lst ys => D.sames xs ys
  | .tup xs, .tup ys => D.sames xs ys
  | .ins c xs, .ins k ys => c == k && D.sames xs ys
  | _, _ => false
def D.sames : List D → List D → Bool
  | [], [] => true
  | x :: xs, y :: ys => D.same x y && D.sames xs ys
  | _, _ => false
end
mutual
theorem D.same_refl : ∀ d : D, D.same d d = true
  | .non => rfl
  | .bl b => by simp [D.same]
  | .int i => by simp [D.same]
  | .str x => by simp [D.same]
  | .lst xs => by simp [D.same, D.sames_refl xs]
  | .tup xs => by simp [D.same, D.sames_refl xs]
  | .ins c xs => by simp [D.same, D.sames_refl xs]
theorem D.sames_refl : ∀ ds : List D, D.sames ds ds = true
  | [] => rfl
  | d :: ds => by simp [D.sames, D.same_refl d, D.sames_refl ds]
end
mutual
theorem D.same_eq : ∀ d e : D, D.same d e = true → d = e
  | .non, e, h => by cases e <;> simp_all [D.same]
  | .bl b, e, h => by cases e <;> simp_all [D.same]
  | .int i, e, h => by cases e <;> simp_all [D.same]
  | .str x, e, h => by cases e <;> simp_all [D.same]
  | .lst xs, e, h => by
    cases e <;> simp [D.same] at h
    rw [D.sames_eq xs _ h]
  | .tup xs, e, h => by
    cases e <;> simp [D.same] at h
    rw [D.sames_eq xs _ h]
  | .ins c xs, e, h => by
    cases e <;> simp [D.same] at h
    rw [h.1, D.sames_eq xs _ h.2]
theorem D.sames_eq : ∀ ds es : List D, D.sames ds es = true → ds = es
  | [], es, h => by cases es <;> simp_all [D.sames]
  | d :: ds, es, h => by
    cases es with
    | nil => simp [D.sames] at h
    | cons e es =>
      simp [D.sames] at h
      rw [D.same_eq d e h.1, D.sames_eq ds es h.2]
end

mutual
/-- how many things a value has -/
def D.bulk : D → Nat
  | .str x => x.cps.size
  | .lst xs | .tup xs => D.bulks xs
  | _ => 0
def D.bulks : List D → Nat
  | [] => 0
  | x :: xs => D.bulk x + 1 + D.bulks xs
end
mutual
/-- its numbers have short texts -/
def D.short : D → Bool
  | .int i => decide (i.natAbs < 10 ^ 570)
  | .lst xs | .tup xs => D.shorts xs
  | .ins _ _ => false
  | _ => true
def D.shorts : List D → Bool
  | [] => true
  | x :: xs => D.short x && D.shorts xs
end
/-- what repr may be asked of -/
def D.showOk (d : D) : Bool := d.short && decide (d.bulk ≤ 29000) && d.flat 60

def D.isNon : D → Bool
  | .non => true
  | _ => false

def evalOp : Op → List D → Option Z
  | .add, [.int i, .int j] => some (.val (.int (i + j)))
  | .add, [.lst xs, .lst ys] => if xs.length + ys.length ≤ maxLen then some (.new (xs ++ ys)) else none
  | .add, [.tup xs, .tup ys] => if xs.length + ys.length ≤ maxLen then some (.val (.tup (xs ++ ys))) else none
  | .sub, [.int i, .int j] => some (.val (.int (i - j)))
  | .mul, [.int i, .int j] => if i.natAbs.log2 + j.natAbs.log2 < 1000000 then some (.val (.int (i * j))) else none
  | .mul, [.lst xs, .int k] => if -(2 ^ 60) ≤ k ∧ k < 2 ^ 60 ∧ xs.length * k.toNat ≤ maxLen then some (.new (List.replicate k.toNat xs).flatten) else none
  | .mul, [.tup xs, .int k] => if xs.isEmpty = false ∧ 2 ≤ k ∧ k ≤ 1000 ∧ xs.length ≤ 1000 then some (.val (.tup (List.replicate k.toNat xs).flatten)) else none
  | .fdiv, [.int i, .int j] => if 0 < j ∧ j.natAbs.log2 < 9000 then some (.val (.int (i / j))) else none
  | .mod, [.int i, .int j] => if 0 < j then some (.val (.int (i % j))) else none
  | .pow, [.int i, .int j] => if 0 ≤ j ∧ j ≤ 1000 ∧ i.natAbs < 2 ^ 60 then some (.val (.int (i ^ j.toNat))) else none
  | .neg, [.int i] => some (.val (.int (-i)))
  | .eq, [d, e] => if d.flat 60 && e.flat 60 then some (.val (.bl (d.eqv e))) else none
  | .ne, [d, e] => if d.flat 60 && e.flat 60 then some (.val (.bl (!d.eqv e))) else none
  | .lt, [.int i, .int j] => some (.val (.bl (decide (i < j))))
  | .le, [.int i, .int j] => some (.val (.bl (decide (i ≤ j))))
  | .gt, [.int i, .int j] => some (.val (.bl (decide (j < i))))
  | .ge, [.int i, .int j] => some (.val (.bl (decide (j ≤ i))))
  | .isN, [d] => some (.val (.bl d.isNon))
  | .notN, [d] => some (.val (.bl (!d.isNon)))
  | .isB b, [.bl c] => some (.val (.bl (b == c)))
  | .notB b, [.bl c] => some (.val (.bl (b != c)))
  | .in_, [d, .lst xs] => if d.leaf && xs.all D.leaf then some (.val (.bl (xs.any fun x => x.eqv d))) else none
  | .in_, [d, .tup xs] => if d.leaf && xs.all D.leaf then some (.val (.bl (xs.any fun x => x.eqv d))) else none
  | .nin, [d, .lst xs] => if d.leaf && xs.all D.leaf then some (.val (.bl (!xs.any fun x => x.eqv d))) else none
  | .nin, [d, .tup xs] => if d.leaf && xs.all D.leaf then some (.val (.bl (!xs.any fun x => x.eqv d))) else none
  | .ix, [.lst xs, .int i] => ((place xs.length i).bind fun k => xs[k]?).map .val
  | .ix, [.tup xs, .int i] => ((place xs.length i).bind fun k => xs[k]?).map .val
  | .sl false false, [.lst xs] => some (.new (cut xs none none))
  | .sl true false, [.lst xs, .int a] => some (.new (cut xs (some a) none))
  | .sl false true, [.lst xs, .int b] => some (.new (cut xs none (some b)))
  | .sl true true, [.lst xs, .int a, .int b] => some (.new (cut xs (some a) (some b)))
  | .sl false false, [.tup xs] => some (.val (.tup (cut xs none none)))
  | .sl true false, [.tup xs, .int a] => some (.val (.tup (cut xs (some a) none)))
  | .sl false true, [.tup xs, .int b] => some (.val (.tup (cut xs none (some b))))
  | .sl true true, [.tup xs, .int a, .int b] => some (.val (.tup (cut xs (some a) (some b))))
  | .rev, [.lst xs] => some (.new xs.reverse)
  | .len, [.lst xs] => some (.val (.int xs.length))
  | .len, [.tup xs] => some (.val (.int xs.length))
  | .abs, [.int i] => some (.val (.int (if i < 0 then -i else i)))
  | .int, [.int i] => some (.val (.int i))
  | .int, [.bl b] => some (.val (.int (if b then 1 else 0)))
  | .bool, [.int i] => some (.val (.bl (i != 0)))
  | .bool, [.bl b] => some (.val (.bl b))
  | .list, [.lst xs] => some (.new xs)
  | .list, [.tup xs] => some (.new xs)
  | .tuple, [.lst xs] => some (.val (.tup xs))
  | .tuple, [.tup xs] => some (.val (.tup xs))
  | .sum, [.lst xs] => (ints? xs).map fun ns => .val (.int ns.sum)
  | .max2, [.int i, .int j] => some (.val (.int (if j > i then j else i)))
  | .min2, [.int i, .int j] => some (.val (.int (if j < i then j else i)))
  | .maxl, [.lst xs] => match ints? xs with | some (n :: ns) => some (.val (.int (greatest n ns))) | _ => none
  | .minl, [.lst xs] => match ints? xs with | some (n :: ns) => some (.val (.int (least n ns))) | _ => none
  | .sorted, [.lst xs] => (ints? xs).map fun ns => .new ((sortI ns).map .int)
  | .sortset, [.lst xs] => match ints? xs with | some ns => if ns.length < 64 then some (.new ((sortU ns).map .int)) else none | none => none
  | .all, [.lst xs] => (bools? xs).map fun bs => .val (.bl (bs.all id))
  | .any, [.lst xs] => (bools? xs).map fun bs => .val (.bl (bs.any id))
  | .rng, [.int n] => if -(2 ^ 60) ≤ n ∧ n ≤ maxLen then some (.new (rangeL n.toNat)) else none
  | .trng, [.int n] => if -(2 ^ 60) ≤ n ∧ n ≤ maxLen then some (.val (.tup (rangeL n.toNat))) else none
  | .isa t, [d] => some (.val (.bl (isa d t)))
  | _, _ => none

/-! ### the language -/
/-- where a value goes: a slot, or the parts of a pair, a triple .. to slots (nested) -/
inductive T where
  | nm (i : Nat) | tp (is : List Nat) | tpp (i : Nat) (is : List Nat)   -- x | (x, y, ..) | x, (y, z)

mutual
inductive E where
  | var (i : Nat)                        -- a name, lent
  | frz (i : Nat)                        -- a name; what it holds never changes again
  | cst (d : D)                          -- None, True, 3, 'a'
  | op (o : Op) (es : Es)
  | call (f : Nat) (es : Es)
  | callK (f : Nat) (ks : List Nat) (es : Es)  -- all arguments by name: the places of the parameters, in the order of the call
  | tup (es : Es) | lst (es : Es)
  | ite (c a b : E)
  | and (a b : E) | or (a b : E) | not (a : E)
  | chain (o p : Op) (a b c : E)         -- a < b <= c
  | comp (t : T) (own : List Nat) (it : I) (c : C) (e : E)
  | pop (i : Nat) | popAt (i : Nat) (e : E)
  | exAt (i : Nat)                       -- e.at of a caught error
  | eqR (k : Bool) (a b : E)             -- repr(a) == repr(b), repr(a) != repr(b)
inductive Es where
  | nil | cons (e : E) (es : Es)
/-- the tests of a comprehension -/
inductive C where
  | yes | one (e : E)
/-- what is walked -/
inductive I where
  | seq (e : E) | rg1 (e : E) | rg2 (a b : E) | rg3 (a b c : E) | enum (e : E) | zip (a b : E) | rev (e : E)
end

mutual
inductive S where
  | asg (t : T) (e : E)
  | par (is : List Nat) (es : Es)
  | aug (o : Op) (i : Nat) (e : E)
  | setix (i : Nat) (ix e : E)
  | app (i : Nat) (e : E) | ins (i : Nat) (k e : E) | ext (i : Nat) (e : E) | pop (i : Nat)
  | expr (e : E) | doc
  | ret (e : E) | retN | pass | brk | cnt
  | ite (c : E) (a b : Ss)
  | wh (m : Env → Nat) (c : E) (b : Ss)
  | for_ (t : T) (it : I) (b : Ss)
  | raise (c : Nat) (e : E)
  | try_ (b : Ss) (h : Hd)
inductive Ss where
  | nil | cons (s : S) (ss : Ss)
/-- except clauses: the classes that one hears, those that it lets by, its name's slot -/
inductive Hd where
  | nil | cons (cs ds : List Nat) (i : Option Nat) (b : Ss) (r : Hd)
end

/-- what an expression is worth: a value (or a new list), or the list that a slot owns, lent -/
inductive Q where
  | mv (m : M) | ref (i : Nat)

inductive R (α : Type) where
  | ok (a : α) | exc (c : Nat) (d : D) (e : Env) | stuck

inductive O where
  | nx (e : Env) | rt (m : M) (e : Env) | bk (e : Env) | ct (e : Env) | exc (c : Nat) (d : D) (e : Env) | stuck

/-- what a def gives: its answer and the lent lists behind it; or the error's class and its at -/
inductive RF where
  | ok (m : M) (ms : List M) | exc (c : Nat) (d : D) | stuck

/-- what the defs are worth -/
abbrev Fs := Nat → List M → RF

def R.bind {α β : Type} (r : R α) (k : α → R β) : R β := match r with
  | .ok a => k a
  | .exc c d e => .exc c d e
  | .stuck => .stuck

def slot (i : Nat) (env : Env) : Option M := (env[i]?).join

/-- it holds a list of one's own -/
def isOwn (i : Nat) (env : Env) : Bool := match slot i env with
  | some (.own _ _) => true
  | _ => false
def Q.get (env : Env) : Q → Option D
  | .mv (.val d) => some d
  | .mv (.own _ xs) => some (.lst xs)
  | .mv _ => none
  | .ref i => match slot i env with
    | some (.own _ xs) => some (.lst xs)
    | _ => none
def gets (env : Env) : List Q → Option (List D)
  | [] => some []
  | q :: qs => match q.get env, gets env qs with
    | some d, some ds => some (d :: ds)
    | _, _ => none

/-- a value to be kept -/
def Q.keep : Q → Option D
  | .mv (.val d) => some d
  | .mv (.own false xs) => some (.lst xs)
  | _ => none
/-- what may be put into a slot -/
def Q.take : Q → Option M
  | .mv (.val d) => some (.val d)
  | .mv (.own false xs) => some (.own false xs)
  | .mv (.deal false b n) => some (.deal false b n)
  | _ => none

/-- what a def may answer: a list of its own goes to the caller, its slot is empty then -/
def Q.give (env : Env) : Q → Option (M × Env)
  | .ref i => match slot i env with
    | some (.own false xs) => some (.own false xs, env.set i none)
    | some (.deal false b n) => some (.deal false b n, env.set i none)
    | _ => none
  | .mv (.val d) => some (.val d, env)
  | .mv (.own false xs) => some (.own false xs, env)
  | .mv (.deal false b n) => some (.deal false b n, env)
  | .mv _ => none

def Z.m : Z → M
  | .val d => .val d
  | .new xs => .own false xs

/-- the caller's own lists are never put away -/
def free (i : Nat) (env : Env) : Bool := match slot i env with
  | some (.own true _) => false
  | some (.deal true _ _) => false
  | _ => decide (i < env.length)
def put (i : Nat) (m : M) (env : Env) : Option Env := if free i env then some (env.set i (some m)) else none
def putD : List Nat → List D → Env → Option Env
  | [], [], env => some env
  | i :: is, d :: ds, env => (put i (.val d) env).bind (putD is ds)
  | _, _, _ => none
def putM : List Nat → List M → Env → Option Env
  | [], [], env => some env
  | i :: is, m :: ms, env => (put i m env).bind (putM is ms)
  | _, _, _ => none
def T.put : T → Option M → Env → Option Env
  | .nm i, some m, env => Rx.put i m env
  | .tp is, some (.val (.tup ds)), env => putD is ds env
  | .tpp i is, some (.val (.tup [d, .tup ds])), env => (Rx.put i (.val d) env).bind (putD is ds)
  | _, _, _ => none

def wipe (env : Env) : List Nat → Env
  | [] => env
  | i :: is => (wipe env is).set i none
/-- the slots is as they were in e0 -/
def back (e0 env : Env) : List Nat → Env
  | [] => env
  | i :: is => (back e0 env is).set i ((e0[i]?).join)
/-- the slots of a comprehension's own names are empty, or hold values -/
def clear (env : Env) (is : List Nat) : Bool := is.all fun i => match slot i env with
  | some (.own true _) => false
  | some (.deal _ _ _) => false
  | _ => decide (i < env.length)

/-- the arguments of a call: each lent list once -/
def lend (env : Env) : List Q → Option (List M)
  | [] => some []
  | .mv (.val d) :: r => (lend env r).map (.val d :: ·)
  | .mv (.own false xs) :: r => (lend env r).map (.val (.lst xs) :: ·)
  | .ref i :: r => match slot i env with
    | some (.own _ xs) => (lend env r).map (.own true xs :: ·)
    | some (.deal _ b n) => (lend env r).map (.deal true b n :: ·)
    | _ => none
  | _ :: _ => none
def refs : List Q → List Nat
  | [] => []
  | .ref i :: r => i :: refs r
  | .mv _ :: r => refs r
def relent : M → M → Option M
  | .own io _, .own true ys => some (.own io ys)
  | .deal io b0 _, .deal true b n => if b0.1 = b.1 then some (.deal io b n) else none
  | _, _ => none
/-- what was lent comes back -/
def unlend : List Q → List M → Env → Option Env
  | [], [], env => some env
  | .mv _ :: r, _ :: ms, env => unlend r ms env
  | .ref i :: r, m :: ms, env => match slot i env with
    | some o => match relent o m with
      | some o' => unlend r ms (env.set i (some o'))
      | none => none
    | none => none
  | _, _, _ => none
/-- behind an error nothing is known of what was lent -/
def drop (env : Env) (qs : List Q) : Env := if refs qs = [] then env else env.map fun _ => none

def callF (r : Fs) (f : Nat) (qs : List Q) (env : Env) : R (Q × Env) :=
  if (refs qs).Nodup then
    match lend env qs with
    | some ms => match r f ms with
      | .ok (.val d) ms' => match unlend qs ms' env with
        | some env' => .ok (.mv (.val d), env')
        | none => .stuck
      | .ok (.own false xs) ms' => match unlend qs ms' env with
        | some env' => .ok (.mv (.own false xs), env')
        | none => .stuck
      | .ok (.deal false b n) ms' => match unlend qs ms' env with
        | some env' => .ok (.mv (.deal false b n), env')
        | none => .stuck
      | .ok _ _ => .stuck
      | .exc c d => .exc c d (drop env qs)
      | .stuck => .stuck
    | none => .stuck
  else .stuck

/-- by name: the k-th value goes to the place ks[k] -/
def order {α : Type} (z : α) (ks : List Nat) (xs : List α) : List α := (List.range xs.length).map fun p => (xs[ks.idxOf p]?).getD z
def asQ (d : D) : Q := .mv (.val d)

/-- the turns of a walk: the values, or an own list's slot that is read turn by turn -/
inductive W where
  | vs (xs : List D) | own (i : Nat) | enumOwn (i : Nat)

/-- the k-th turn's value: some none: there is none -/
def W.at (env : Env) (k : Nat) : W → Option (Option D)
  | .vs xs => some xs[k]?
  | .own i => match slot i env with
    | some (.own true xs) => some xs[k]?
    | _ => none
  | .enumOwn i => match slot i env with
    | some (.own true xs) => some ((xs[k]?).map fun d => .tup [.int k, d])
    | _ => none
def W.len (env : Env) : W → Nat
  | .vs xs => xs.length
  | .own i | .enumOwn i => match slot i env with
    | some (.own true xs) => xs.length
    | _ => 0

def enumL : Nat → List D → List D
  | _, [] => []
  | k, d :: ds => .tup [.int k, d] :: enumL (k + 1) ds
def zipL : List D → List D → List D
  | x :: xs, y :: ys => .tup [x, y] :: zipL xs ys
  | _, _ => []
def zip2 : D → D → Option (List D)
  | .lst xs, .lst ys => some (zipL xs ys)
  | .tup xs, .tup ys => some (zipL xs ys)
  | _, _ => none
def rangeC (lo c : Int) (n : Nat) : List D := (List.range n).map fun (k : Nat) => .int (lo + (k : Int) * c)
/-- how many turns range(i, j, c) has -/
def turnsC (i j c : Int) : Nat := if 0 < c then ((j - i + c - 1) / c).toNat else if c < 0 then ((i - j - c - 1) / (-c)).toNat else 0

def isSeq : D → Option (List D)
  | .lst xs => some xs
  | .tup xs => some xs
  | _ => none

/-- a value's truth -/
def test1 (x : R (Q × Env)) : R (Bool × Env) := x.bind fun p => match p.1.get p.2 with
  | some d => match truth d with
    | some k => .ok (k, p.2)
    | none => .stuck
  | none => .stuck

variable (r : Fs)

/-- a comprehension's turns -/
def compF (t : T) (own : List Nat) (w : W) (fc fe : Env → R (Q × Env)) : Nat → Nat → List D → Env → R (List D × Env)
  | 0, _, _, _ => .stuck
  | n + 1, k, acc, env => match w.at env k with
    | some none => .ok (acc, env)
    | none => .stuck
    | some (some d) => match t.put (some (.val d)) env with
      | none => .stuck
      | some env1 => match fc env1 with
        | .ok (.mv (.val (.bl true)), env2) => match fe env2 with
          | .ok (q, env3) => match q.keep with
            | some x => if acc.length < maxLen then compF t own w fc fe n (k + 1) (acc ++ [x]) (wipe env3 own) else .stuck
            | none => .stuck
          | _ => .stuck
        | .ok (.mv (.val (.bl false)), env2) => compF t own w fc fe n (k + 1) acc (wipe env2 own)
        | _ => .stuck

/-- a for's turns -/
def forF (t : T) (w : W) (fb : Env → O) : Nat → Nat → Env → O
  | 0, _, _ => .stuck
  | n + 1, k, env => match w.at env k with
    | some none => .nx env
    | none => .stuck
    | some (some d) => match t.put (some (.val d)) env with
      | none => .stuck
      | some env1 => match fb env1 with
        | .nx env2 => forF t w fb n (k + 1) env2
        | .ct env2 => forF t w fb n (k + 1) env2
        | .bk env2 => .nx env2
        | o => o

/-- a while's turns -/
def whF (fc : Env → R (Bool × Env)) (fb : Env → O) : Nat → Env → O
  | 0, _ => .stuck
  | n + 1, env => match fc env with
    | .ok (false, env1) => .nx env1
    | .ok (true, env1) => match fb env1 with
      | .nx env2 => whF fc fb n env2
      | .ct env2 => whF fc fb n env2
      | .bk env2 => .nx env2
      | o => o
    | .exc c d e => .exc c d e
    | .stuck => .stuck

/-- as a test, where it is wanted as one -/
def asT (t : Bool) (x : R (Q × Env)) : R (Q × Env) := if t then (test1 x).bind fun p => .ok (.mv (.val (.bl p.1)), p.2) else x

mutual
/-- an expression's meaning; t: as a test -/
def denG : E → Bool → Env → R (Q × Env)
  | .var i, t, env => asT t (match slot i env with
    | some (.val d) => .ok (.mv (.val d), env)
    | some (.own _ _) => .ok (.ref i, env)
    | some (.deal _ _ _) => .ok (.ref i, env)
    | _ => .stuck)
  | .frz i, t, env => asT t (match slot i env with
    | some (.val d) => .ok (.mv (.val d), env)
    | some (.own false xs) => .ok (.mv (.val (.lst xs)), env.set i (some (.val (.lst xs))))
    | _ => .stuck)
  | .cst d, t, env => asT t (.ok (.mv (.val d), env))
  | .op o es, t, env => asT t ((denEs es env).bind fun p => match gets p.2 p.1 with
    | some ds => match evalOp o ds with
      | some z => .ok (.mv z.m, p.2)
      | none => .stuck
    | none => .stuck)
  | .call f es, t, env => asT t ((denEs es env).bind fun p => callF r f p.1 p.2)
  | .callK f ks es, t, env => asT t ((denKs es env).bind fun p => callF r f ((order D.non ks p.1).map asQ) p.2)
  | .tup es, t, env => asT t ((denKs es env).bind fun p => if p.1.length ≤ maxLen then .ok (.mv (.val (.tup p.1)), p.2) else .stuck)
  | .lst es, t, env => asT t ((denKs es env).bind fun p => if p.1.length ≤ maxLen then .ok (.mv (.own false p.1), p.2) else .stuck)
  | .ite c a b, t, env => asT t ((denG c true env).bind fun p => match p.1 with
    | .mv (.val (.bl true)) => denG a false p.2
    | .mv (.val (.bl false)) => denG b false p.2
    | _ => .stuck)
  | .and a b, t, env => (denG a t env).bind fun p => match p.1 with
    | .mv (.val (.bl true)) => denG b t p.2
    | .mv (.val (.bl false)) => .ok (.mv (.val (.bl false)), p.2)
    | _ => .stuck
  | .or a b, t, env => (denG a t env).bind fun p => match p.1 with
    | .mv (.val (.bl false)) => denG b t p.2
    | .mv (.val (.bl true)) => .ok (.mv (.val (.bl true)), p.2)
    | _ => .stuck
  | .not a, t, env => (denG a t env).bind fun p => match p.1 with
    | .mv (.val (.bl k)) => .ok (.mv (.val (.bl (!k))), p.2)
    | _ => .stuck
  | .chain o p a b c, t, env => asT t ((denG a false env).bind fun x => (denG b false x.2).bind fun y => match x.1.get y.2, y.1.get y.2 with
    | some dx, some dy => match evalOp o [dx, dy] with
      | some (.val (.bl true)) => (denG c false y.2).bind fun z => match y.1.get z.2, z.1.get z.2 with
        | some dy', some dz => match evalOp p [dy', dz] with
          | some (.val (.bl k)) => .ok (.mv (.val (.bl k)), z.2)
          | _ => .stuck
        | _, _ => .stuck
      | some (.val (.bl false)) => .ok (.mv (.val (.bl false)), y.2)
      | _ => .stuck
    | _, _ => .stuck)
  | .comp tg own it c e, t, env => asT t ((denI it env).bind fun w =>
      if clear w.2 own then
        (match compF tg own w.1 (denC c) (denG e false) (w.1.len w.2 + 1) 0 [] (wipe w.2 own) with
          | .ok (ds, env2) => .ok (.mv (.own false ds), back w.2 env2 own)
          | _ => .stuck)
      else .stuck)
  | .pop i, t, env => asT t (match slot i env with
    | some (.own io xs) => match xs.getLast? with
      | some d => .ok (.mv (.val d), env.set i (some (.own io xs.dropLast)))
      | none => .stuck
    | _ => .stuck)
  | .popAt i e, t, env => asT t (if isOwn i env then (denG e false env).bind fun p => match p.1.get p.2, slot i p.2 with
    | some (.int k), some (.own io xs) => match place xs.length k with
      | some j => match xs[j]? with
        | some d => if -(2 ^ 60) ≤ k ∧ k < 2 ^ 60 then .ok (.mv (.val d), p.2.set i (some (.own io (xs.eraseIdx j)))) else .stuck
        | none => .stuck
      | none => .stuck
    | _, _ => .stuck
    else .stuck)
  | .exAt i, t, env => asT t (match slot i env with
    | some (.ex _ d) => .ok (.mv (.val d), env)
    | _ => .stuck)
  | .eqR k a b, t, env => asT t ((denG a false env).bind fun x => match x.1.keep with
    | some d => if d.showOk then (denG b false x.2).bind fun y => match y.1.keep with
      | some e => if d.same e then .ok (.mv (.val (.bl k)), y.2) else .stuck
      | none => .stuck
      else .stuck
    | none => .stuck)
def denC : C → Env → R (Q × Env)
  | .yes, env => .ok (.mv (.val (.bl true)), env)
  | .one e, env => denG e true env
def denEs : Es → Env → R (List Q × Env)
  | .nil, env => .ok ([], env)
  | .cons e es, env => (denG e false env).bind fun p => (denEs es p.2).bind fun ps => .ok (p.1 :: ps.1, ps.2)
/-- values to be kept -/
def denKs : Es → Env → R (List D × Env)
  | .nil, env => .ok ([], env)
  | .cons e es, env => (denG e false env).bind fun p => match p.1.keep with
    | some d => (denKs es p.2).bind fun ps => .ok (d :: ps.1, ps.2)
    | none => .stuck
def denI : I → Env → R (W × Env)
  | .seq e, env => (denG e false env).bind fun p => match p.1 with
    | .ref i => match slot i p.2 with
      | some (.own true _) => .ok (.own i, p.2)
      | some (.own false xs) => .ok (.vs xs, p.2.set i (some (.val (.lst xs))))
      | _ => .stuck
    | q => match q.keep with
      | some d => match isSeq d with
        | some ds => .ok (.vs ds, p.2)
        | none => .stuck
      | none => .stuck
  | .rg1 e, env => (denG e false env).bind fun p => match p.1.get p.2 with
    | some (.int n) => if -(2 ^ 60) ≤ n ∧ n ≤ 2 ^ 60 then .ok (.vs (rangeC 0 1 n.toNat), p.2) else .stuck
    | _ => .stuck
  | .rg2 a b, env => (denG a false env).bind fun x => (denG b false x.2).bind fun y => match x.1.get y.2, y.1.get y.2 with
    | some (.int i), some (.int j) => if -(2 ^ 60) ≤ i ∧ i ≤ 2 ^ 60 ∧ -(2 ^ 60) ≤ j ∧ j ≤ 2 ^ 60 then .ok (.vs (rangeC i 1 (j - i).toNat), y.2) else .stuck
    | _, _ => .stuck
  | .rg3 _ _ _, _ => .stuck
  | .enum e, env => (denG e false env).bind fun p => match p.1 with
    | .ref i => match slot i p.2 with
      | some (.own true _) => .ok (.enumOwn i, p.2)
      | some (.own false xs) => .ok (.vs (enumL 0 xs), p.2.set i (some (.val (.lst xs))))
      | _ => .stuck
    | q => match q.keep with
      | some d => match isSeq d with
        | some ds => .ok (.vs (enumL 0 ds), p.2)
        | none => .stuck
      | none => .stuck
  | .zip a b, env => (denG a false env).bind fun x => match x.1.keep with
    | some dx => (denG b false x.2).bind fun y => match y.1.keep with
      | some dy => match zip2 dx dy with
        | some ds => .ok (.vs ds, y.2)
        | none => .stuck
      | none => .stuck
    | none => .stuck
  | .rev e, env => (denG e false env).bind fun p => match p.1.keep with
    | some d => match isSeq d with
      | some ds => .ok (.vs ds.reverse, p.2)
      | none => .stuck
    | none => .stuck
end
abbrev denE (e : E) (env : Env) : R (Q × Env) := denG r e false env
theorem denE_var (i : Nat) (env : Env) : denE r (.var i) env = (match slot i env with
    | some (.val d) => .ok (.mv (.val d), env)
    | some (.own _ _) => .ok (.ref i, env)
    | some (.deal _ _ _) => .ok (.ref i, env)
    | _ => .stuck) := rfl
theorem denE_frz (i : Nat) (env : Env) : denE r (.frz i) env = (match slot i env with
    | some (.val d) => .ok (.mv (.val d), env)
    | some (.own false xs) => .ok (.mv (.val (.lst xs)), env.set i (some (.val (.lst xs))))
    | _ => .stuck) := rfl
theorem denE_cst (d : D) (env : Env) : denE r (.cst d) env = (.ok (.mv (.val d), env)) := rfl
theorem denE_op (o : Op) (es : Es) (env : Env) : denE r (.op o es) env = ((denEs r es env).bind fun p => match gets p.2 p.1 with
    | some ds => match evalOp o ds with
      | some z => .ok (.mv z.m, p.2)
      | none => .stuck
    | none => .stuck) := rfl
theorem denE_call (f : Nat) (es : Es) (env : Env) : denE r (.call f es) env = ((denEs r es env).bind fun p => callF r f p.1 p.2) := rfl
theorem denE_callK (f : Nat) (ks : List Nat) (es : Es) (env : Env) : denE r (.callK f ks es) env = ((denKs r es env).bind fun p => callF r f ((order D.non ks p.1).map asQ) p.2) := rfl
theorem denE_tup (es : Es) (env : Env) : denE r (.tup es) env = ((denKs r es env).bind fun p => if p.1.length ≤ maxLen then .ok (.mv (.val (.tup p.1)), p.2) else .stuck) := rfl
theorem denE_lst (es : Es) (env : Env) : denE r (.lst es) env = ((denKs r es env).bind fun p => if p.1.length ≤ maxLen then .ok (.mv (.own false p.1), p.2) else .stuck) := rfl
theorem denE_chain (o p : Op) (a b c : E) (env : Env) : denE r (.chain o p a b c) env = ((denG r a false env).bind fun x => (denG r b false x.2).bind fun y => match x.1.get y.2, y.1.get y.2 with
    | some dx, some dy => match evalOp o [dx, dy] with
      | some (.val (.bl true)) => (denG r c false y.2).bind fun z => match y.1.get z.2, z.1.get z.2 with
        | some dy', some dz => match evalOp p [dy', dz] with
          | some (.val (.bl k)) => .ok (.mv (.val (.bl k)), z.2)
          | _ => .stuck
        | _, _ => .stuck
      | some (.val (.bl false)) => .ok (.mv (.val (.bl false)), y.2)
      | _ => .stuck
    | _, _ => .stuck) := rfl
theorem denE_comp (tg : T) (own : List Nat) (it : I) (c : C) (e : E) (env : Env) : denE r (.comp tg own it c e) env = ((denI r it env).bind fun w =>
      if clear w.2 own then
        (match compF tg own w.1 (denC r c) (denG r e false) (w.1.len w.2 + 1) 0 [] (wipe w.2 own) with
          | .ok (ds, env2) => .ok (.mv (.own false ds), back w.2 env2 own)
          | _ => .stuck)
      else .stuck) := rfl
theorem denE_pop (i : Nat) (env : Env) : denE r (.pop i) env = (match slot i env with
    | some (.own io xs) => match xs.getLast? with
      | some d => .ok (.mv (.val d), env.set i (some (.own io xs.dropLast)))
      | none => .stuck
    | _ => .stuck) := rfl
theorem denE_popAt (i : Nat) (e : E) (env : Env) : denE r (.popAt i e) env = (if isOwn i env then (denG r e false env).bind fun p => match p.1.get p.2, slot i p.2 with
    | some (.int k), some (.own io xs) => match place xs.length k with
      | some j => match xs[j]? with
        | some d => if -(2 ^ 60) ≤ k ∧ k < 2 ^ 60 then .ok (.mv (.val d), p.2.set i (some (.own io (xs.eraseIdx j)))) else .stuck
        | none => .stuck
      | none => .stuck
    | _, _ => .stuck
    else .stuck) := rfl
theorem denE_exAt (i : Nat) (env : Env) : denE r (.exAt i) env = (match slot i env with
    | some (.ex _ d) => .ok (.mv (.val d), env)
    | _ => .stuck) := rfl
theorem denE_eqR (k : Bool) (a b : E) (env : Env) : denE r (.eqR k a b) env = ((denG r a false env).bind fun x => match x.1.keep with
    | some d => if d.showOk then (denG r b false x.2).bind fun y => match y.1.keep with
      | some e => if d.same e then .ok (.mv (.val (.bl k)), y.2) else .stuck
      | none => .stuck
      else .stuck
    | none => .stuck) := rfl
theorem denE_and (a b : E) (env : Env) : denE r (.and a b) env = ((denE r a env).bind fun p => match p.1 with
    | .mv (.val (.bl true)) => denE r b p.2
    | .mv (.val (.bl false)) => .ok (.mv (.val (.bl false)), p.2)
    | _ => .stuck) := rfl
theorem denE_or (a b : E) (env : Env) : denE r (.or a b) env = ((denE r a env).bind fun p => match p.1 with
    | .mv (.val (.bl false)) => denE r b p.2
    | .mv (.val (.bl true)) => .ok (.mv (.val (.bl true)), p.2)
    | _ => .stuck) := rfl
theorem denE_not (a : E) (env : Env) : denE r (.not a) env = ((denE r a env).bind fun p => match p.1 with
    | .mv (.val (.bl k)) => .ok (.mv (.val (.bl (!k))), p.2)
    | _ => .stuck) := rfl
/-- as a test -/
def denT (e : E) (env : Env) : R (Bool × Env) := (denG r e true env).bind fun p => match p.1 with
  | .mv (.val (.bl k)) => .ok (k, p.2)
  | _ => .stuck

theorem asT_val (x : R (Q × Env)) : ((asT true x).bind fun p => match p.1 with
    | .mv (.val (.bl k)) => R.ok (k, p.2)
    | _ => .stuck) = test1 x := by
  unfold asT
  rw [if_pos rfl]
  cases test1 x with
  | ok p => rfl
  | exc c d e => rfl
  | stuck => rfl
/-- what is tested by its value's truth -/
def plainT : E → Bool
  | .and _ _ | .or _ _ | .not _ => false
  | _ => true
theorem denT_plain {e : E} (h : plainT e = true) (env : Env) : denT r e env = test1 (denE r e env) := by
  cases e <;> first | exact asT_val _ | (simp [plainT] at h; done)
theorem denG_bl (e : E) : ∀ (env : Env) (q : Q) (env' : Env), denG r e true env = .ok (q, env') → ∃ k, q = .mv (.val (.bl k)) := by
  have base : ∀ (x : R (Q × Env)) (q : Q) (env' : Env), asT true x = .ok (q, env') → ∃ k, q = .mv (.val (.bl k)) := fun x q env' h => by
    unfold asT at h
    rw [if_pos rfl] at h
    cases e : test1 x with
    | ok p => rw [e] at h; cases h; exact ⟨_, rfl⟩
    | exc c d e2 => rw [e] at h; cases h
    | stuck => rw [e] at h; cases h
  cases e with
  | and a b =>
    intro env q env' h
    simp only [denG] at h
    cases e1 : denG r a true env with
    | ok p =>
      rw [e1] at h
      simp only [R.bind] at h
      split at h
      · exact denG_bl b _ _ _ h
      · cases h; exact ⟨_, rfl⟩
      · cases h
    | exc c d e2 => rw [e1] at h; cases h
    | stuck => rw [e1] at h; cases h
  | or a b =>
    intro env q env' h
    simp only [denG] at h
    cases e1 : denG r a true env with
    | ok p =>
      rw [e1] at h
      simp only [R.bind] at h
      split at h
      · exact denG_bl b _ _ _ h
      · cases h; exact ⟨_, rfl⟩
      · cases h
    | exc c d e2 => rw [e1] at h; cases h
    | stuck => rw [e1] at h; cases h
  | not a =>
    intro env q env' h
    simp only [denG] at h
    cases e1 : denG r a true env with
    | ok p =>
      rw [e1] at h
      simp only [R.bind] at h
      split at h
      · cases h; exact ⟨_, rfl⟩
      · cases h
    | exc c d e2 => rw [e1] at h; cases h
    | stuck => rw [e1] at h; cases h
  | _ => exact fun env q env' h => base _ q env' h
/-- a test's answer as a value -/
theorem denG_T (e : E) (env : Env) : denG r e true env = (denT r e env).bind fun p => .ok (.mv (.val (.bl p.1)), p.2) := by
  unfold denT
  cases h : denG r e true env with
  | ok p =>
    obtain ⟨q, env'⟩ := p
    obtain ⟨k, rfl⟩ := denG_bl r e env q env' h
    rfl
  | exc c d e2 => rfl
  | stuck => rfl
theorem denT_and (a b : E) (env : Env) : denT r (.and a b) env = (denT r a env).bind fun p => if p.1 then denT r b p.2 else .ok (false, p.2) := by
  unfold denT
  simp only [denG]
  cases h : denG r a true env with
  | ok p =>
    obtain ⟨q, env'⟩ := p
    obtain ⟨k, rfl⟩ := denG_bl r a env q env' h
    cases k <;> rfl
  | exc c d e2 => rfl
  | stuck => rfl
theorem denT_or (a b : E) (env : Env) : denT r (.or a b) env = (denT r a env).bind fun p => if p.1 then .ok (true, p.2) else denT r b p.2 := by
  unfold denT
  simp only [denG]
  cases h : denG r a true env with
  | ok p =>
    obtain ⟨q, env'⟩ := p
    obtain ⟨k, rfl⟩ := denG_bl r a env q env' h
    cases k <;> rfl
  | exc c d e2 => rfl
  | stuck => rfl
theorem denT_not (a : E) (env : Env) : denT r (.not a) env = (denT r a env).bind fun p => .ok (!p.1, p.2) := by
  unfold denT
  simp only [denG]
  cases h : denG r a true env with
  | ok p =>
    obtain ⟨q, env'⟩ := p
    obtain ⟨k, rfl⟩ := denG_bl r a env q env' h
    rfl
  | exc c d e2 => rfl
  | stuck => rfl
theorem denE_ite (c a b : E) (env : Env) : denE r (.ite c a b) env = (denT r c env).bind fun p => if p.1 then denE r a p.2 else denE r b p.2 := by
  show asT false _ = _
  unfold asT
  rw [if_neg (by decide), denG_T]
  cases denT r c env with
  | ok p => obtain ⟨k, e⟩ := p; cases k <;> rfl
  | exc c d e => rfl
  | stuck => rfl

def R.o {α : Type} (x : R α) (k : α → O) : O := match x with
  | .ok a => k a
  | .exc c d e => .exc c d e
  | .stuck => .stuck
def O.of : Option Env → O
  | some e => .nx e
  | none => .stuck

def takes : List Q → Option (List M)
  | [] => some []
  | q :: qs => match q.take, takes qs with
    | some m, some ms => some (m :: ms)
    | _, _ => none

/-- no error is held -/
def noExs (env : Env) : Bool := env.all fun m => match m with
  | some (.ex _ _) => false
  | _ => true
/-- an error comes to a clause with a name or none -/
def hear (i : Option Nat) (k : Nat) (d : D) (env : Env) : Option Env := if noExs env then (match i with
  | some j => put j (.ex k d) env
  | none => some env) else none
/-- the clause's name goes -/
def forget (i : Option Nat) (env : Env) : Env := match i with
  | some j => env.set j none
  | none => env

mutual
def denS : S → Env → O
  | .asg t e, env => (denE r e env).o fun (q, env') => O.of (t.put q.take env')
  | .par is es, env => (denEs r es env).o fun (qs, env') => match takes qs with
    | some ms => O.of (putM is ms env')
    | none => .stuck
  | .aug o i e, env => match slot i env with
    | some (.val (.int n)) => (denE r e env).o fun (q, env') => match q.get env' with
      | some x => match evalOp o [.int n, x] with
        | some (.val z) => O.of (put i (.val z) env')
        | _ => .stuck
      | none => .stuck
    | _ => .stuck
  | .setix i ix e, env => (denE r e env).o fun (q, e1) => match q.keep with
    | some d => if isOwn i e1 then (denE r ix e1).o fun (y, e2) => match y.get e2, slot i e2 with
      | some (.int k), some (.own io xs) => match place xs.length k with
        | some j => .nx (e2.set i (some (.own io (xs.set j d))))
        | none => .stuck
      | _, _ => .stuck
      else .stuck
    | none => .stuck
  | .app i e, env => if isOwn i env then (denE r e env).o fun (q, e1) => match q.keep, slot i e1 with
    | some d, some (.own io xs) => if xs.length < maxLen then .nx (e1.set i (some (.own io (xs ++ [d])))) else .stuck
    | _, _ => .stuck
    else .stuck
  | .ins i k e, env => if isOwn i env then (denE r k env).o fun (q, e1) => (denE r e e1).o fun (y, e2) => match q.get e2, y.keep, slot i e2 with
    | some (.int n), some d, some (.own io xs) => if xs.length < maxLen ∧ 0 ≤ n ∧ n ≤ xs.length then .nx (e2.set i (some (.own io (xs.take n.toNat ++ [d] ++ xs.drop n.toNat)))) else .stuck
    | _, _, _ => .stuck
    else .stuck
  | .ext i e, env => if isOwn i env then (denE r e env).o fun (q, e1) => match q.keep, slot i e1 with
    | some (.lst ys), some (.own io xs) => if xs.length + ys.length ≤ maxLen then .nx (e1.set i (some (.own io (xs ++ ys)))) else .stuck
    | _, _ => .stuck
    else .stuck
  | .pop i, env => (denE r (.pop i) env).o fun (_, e1) => .nx e1
  | .expr e, env => (denE r e env).o fun (_, e1) => .nx e1
  | .doc, env => .nx env
  | .ret e, env => (denE r e env).o fun (q, e1) => match q.give e1 with
    | some (m, e2) => .rt m e2
    | none => .stuck
  | .retN, env => .rt (.val .non) env
  | .pass, env => .nx env
  | .brk, env => .bk env
  | .cnt, env => .ct env
  | .ite c a b, env => (denT r c env).o fun (k, e1) => if k then denSs a e1 else denSs b e1
  | .wh m c b, env => whF (denT r c) (denSs b) (m env) env
  | .for_ t it b, env => (denI r it env).o fun (w, e1) => forF t w (denSs b) (w.len e1 + 1) 0 e1
  | .raise c e, env => (denE r e env).o fun (q, e1) => match q.keep with
    | some d => .exc c d e1
    | none => .stuck
  | .try_ b h, env => match denSs b env with
    | .exc k d e1 => denH h k d e1
    | o => o
def denSs : Ss → Env → O
  | .nil, env => .nx env
  | .cons s ss, env => match denS s env with
    | .nx e => denSs ss e
    | o => o
def denH : Hd → Nat → D → Env → O
  | .nil, k, d, env => .exc k d env
  | .cons cs ds i b hs, k, d, env => if cs.contains k then (match hear i k d env with
      | some e1 => (match denSs b e1 with
        | .nx e2 => if noExs (forget i e2) then .nx (forget i e2) else .stuck
        | .rt m e2 => if noExs (forget i e2) then .rt m (forget i e2) else .stuck
        | .bk e2 => if noExs (forget i e2) then .bk (forget i e2) else .stuck
        | .ct e2 => if noExs (forget i e2) then .ct (forget i e2) else .stuck
        | _ => .stuck)
      | none => .stuck) else if ds.contains k then denH hs k d env else .stuck
end

/-- the lent arguments come back from the first slots -/
def lentBack : List M → Env → Option (List M)
  | [], _ => some []
  | .val d :: ms, _ :: env => (lentBack ms env).map (.val d :: ·)
  | .own true _ :: ms, some (.own true ys) :: env => (lentBack ms env).map (.own true ys :: ·)
  | .deal true b0 _ :: ms, some (.deal true b n) :: env => if b0.1 = b.1 then (lentBack ms env).map (.deal true b n :: ·) else none
  | _, _ => none
def lentOk : M → Bool
  | .val _ => true
  | .own true _ => true
  | .deal true _ _ => true
  | _ => false

/-- what a def is worth: np parameters, n slots -/
def denF (np n : Nat) (b : Ss) (ms : List M) : RF :=
  if ms.all lentOk ∧ ms.length = np then
    match denSs r b (ms.map some ++ List.replicate (n - ms.length) none) with
    | .rt m e => match lentBack ms e with
      | some ms' => .ok m ms'
      | none => .stuck
    | .nx e => match lentBack ms e with
      | some ms' => .ok (.val .non) ms'
      | none => .stuck
    | .exc c d _ => .exc c d
    | _ => .stuck
  else .stuck
end Rx

/-! RxLent -/
/-! RxLent: what is lent was lent before: no step makes an own list a lent one. -/
set_option linter.all false
namespace Rx
def notLent : M → Bool
  | .own true _ => false
  | .deal true _ _ => false
  | _ => true
def lent (i : Nat) (env : Env) : Bool := match slot i env with
  | some m => !notLent m
  | none => false
def LM (env env' : Env) : Prop := ∀ i, lent i env' = true → lent i env = true
theorem LM.refl (env : Env) : LM env env := fun _ h => h
theorem LM.trans {a b c : Env} (h : LM a b) (k : LM b c) : LM a c := fun i x => h i (k i x)
def R.lm {α : Type} (x : R (α × Env)) (env : Env) : Prop := match x with
  | .ok (_, env') => LM env env'
  | .exc _ _ env' => LM env env'
  | .stuck => True
theorem R.lm.bind {α β : Type} {x : R (α × Env)} {k : α × Env → R (β × Env)} {env : Env} (h : x.lm env) (hk : ∀ a env1, (k (a, env1)).lm env1) : (x.bind k).lm env := by
  cases x with
  | stuck => trivial
  | exc c d e => exact h
  | ok p =>
    obtain ⟨a, env1⟩ := p
    have q := hk a env1
    show (k (a, env1)).lm env
    cases e : k (a, env1) with
    | stuck => trivial
    | exc c d e2 => rw [e] at q; exact LM.trans h q
    | ok p2 => rw [e] at q; exact LM.trans h q
theorem R.lm.ok {α : Type} {a : α} {env : Env} : (R.ok (a, env) : R (α × Env)).lm env := LM.refl env
theorem slot_set {i j : Nat} {m : Option M} {env : Env} : slot j (env.set i m) = if j = i ∧ i < env.length then m else slot j env := by
  unfold slot
  by_cases h : j = i
  · subst h
    by_cases hl : j < env.length
    · rw [if_pos ⟨rfl, hl⟩, List.getElem?_set_self hl]
      rfl
    · rw [if_neg (fun x => hl x.2), List.getElem?_eq_none (by simpa using hl), List.getElem?_eq_none (by simpa using hl)]
  · rw [if_neg (fun x => h x.1), List.getElem?_set_ne (Ne.symm h)]
theorem LM.set {i : Nat} {m : Option M} {env : Env} (k : ∀ x, m = some x → notLent x = false → lent i env = true) : LM env (env.set i m) := fun j h => by
  unfold lent at h
  rw [slot_set] at h
  by_cases c : j = i ∧ i < env.length
  · rw [if_pos c] at h
    rw [c.1]
    cases m with
    | none => cases h
    | some x => exact k x rfl (by simpa using h)
  · rw [if_neg c] at h
    exact h
theorem put_lm {i : Nat} {m : M} {env env' : Env} (h : put i m env = some env') (k : notLent m = true) : LM env env' := by
  unfold put at h
  by_cases c : free i env = true
  · rw [if_pos c] at h
    cases h
    refine LM.set fun x e hx => ?_
    cases e
    rw [k] at hx
    cases hx
  · rw [if_neg c] at h
    cases h
theorem putD_lm : ∀ {is : List Nat} {ds : List D} {env env' : Env}, putD is ds env = some env' → LM env env'
  | [], [], _, _, h => by cases h; exact LM.refl _
  | i :: is, d :: ds, env, env', h => by
    simp only [putD] at h
    obtain ⟨e1, h1, h2⟩ := Option.bind_eq_some_iff.mp h
    exact (put_lm h1 rfl).trans (putD_lm h2)
  | [], _ :: _, _, _, h => by cases h
  | _ :: _, [], _, _, h => by cases h
theorem putM_lm : ∀ {is : List Nat} {ms : List M} {env env' : Env}, putM is ms env = some env' → ms.all notLent = true → LM env env'
  | [], [], _, _, h, _ => by cases h; exact LM.refl _
  | i :: is, m :: ms, env, env', h, k => by
    simp only [putM] at h
    simp only [List.all_cons, Bool.and_eq_true] at k
    obtain ⟨e1, h1, h2⟩ := Option.bind_eq_some_iff.mp h
    exact (put_lm h1 k.1).trans (putM_lm h2 k.2)
  | [], _ :: _, _, _, h, _ => by cases h
  | _ :: _, [], _, _, h, _ => by cases h
theorem take_not {q : Q} {m : M} (h : q.take = some m) : notLent m = true := by
  cases q with
  | ref i => cases h
  | mv m' =>
    cases m' with
    | val d => cases h; rfl
    | own io xs => cases io <;> simp [Q.take] at h; subst h; rfl
    | deal io b n => cases io <;> simp [Q.take] at h; subst h; rfl
    | ex c d => cases h
theorem tput_lm {t : T} {m : Option M} {env env' : Env} (h : t.put m env = some env') (k : ∀ x, m = some x → notLent x = true) : LM env env' := by
  unfold T.put at h
  split at h
  · exact put_lm h (k _ rfl)
  · exact putD_lm h
  · obtain ⟨e1, h1, h2⟩ := Option.bind_eq_some_iff.mp h
    exact (put_lm h1 rfl).trans (putD_lm h2)
  · cases h
theorem wipe_lm (env : Env) : ∀ is : List Nat, LM env (wipe env is)
  | [] => LM.refl _
  | i :: is => (wipe_lm env is).trans (LM.set fun x e => by cases e)
theorem lent_of {i : Nat} {env : Env} {m : M} (h : slot i env = some m) (k : notLent m = false) : lent i env = true := by
  unfold lent
  rw [h]
  simp [k]
theorem back_lm (e0 env : Env) : ∀ is : List Nat, LM e0 env → LM e0 (back e0 env is)
  | [], h => h
  | i :: is, h => fun j hj => by
    unfold back at hj
    unfold lent at hj
    rw [slot_set] at hj
    by_cases c : j = i ∧ i < (back e0 env is).length
    · rw [if_pos c] at hj
      rw [c.1]
      unfold lent slot
      exact hj
    · rw [if_neg c] at hj
      exact back_lm e0 env is h j hj
theorem unlend_lm : ∀ {qs : List Q} {ms : List M} {env env' : Env}, unlend qs ms env = some env' → LM env env'
  | [], [], _, _, h => by cases h; exact LM.refl _
  | [], _ :: _, _, _, h => by cases h
  | .mv _ :: _, [], _, _, h => by cases h
  | .ref _ :: _, [], _, _, h => by cases h
  | .mv m :: qs, m' :: ms, env, env', h => unlend_lm (qs := qs) (ms := ms) h
  | .ref i :: qs, m' :: ms, env, env', h => by
    simp only [unlend] at h
    cases hs : slot i env with
    | none => rw [hs] at h; cases h
    | some o =>
      rw [hs] at h
      dsimp only at h
      cases hr : relent o m' with
      | none => rw [hr] at h; cases h
      | some o' =>
        rw [hr] at h
        refine (LM.set fun x e hx => ?_).trans (unlend_lm h)
        cases e
        refine lent_of hs ?_
        cases o <;> cases m' <;> try (simp [relent] at hr; done)
        · rename_i io xs io' ys
          cases io' with
          | false => simp [relent] at hr
          | true => simp [relent] at hr; subst hr; cases io <;> simp_all [notLent]
        · rename_i io b n io' b' n'
          cases io' with
          | false => simp [relent] at hr
          | true => simp [relent] at hr; obtain ⟨_, hr⟩ := hr; subst hr; cases io <;> simp_all [notLent]
theorem drop_lm (env : Env) (qs : List Q) : LM env (drop env qs) := by
  unfold drop
  by_cases h : refs qs = []
  · rw [if_pos h]; exact LM.refl _
  · rw [if_neg h]
    intro i hi
    unfold lent slot at hi
    rw [List.getElem?_map] at hi
    cases e : env[i]? with
    | none => rw [e] at hi; cases hi
    | some m => rw [e] at hi; cases hi
theorem callF_lm (r : Fs) (f : Nat) (qs : List Q) (env : Env) : (callF r f qs env).lm env := by
  unfold callF
  split
  · split
    · split
      · split
        · exact unlend_lm ‹_›
        · trivial
      · split
        · exact unlend_lm ‹_›
        · trivial
      · split
        · exact unlend_lm ‹_›
        · trivial
      · trivial
      · exact drop_lm _ _
      · trivial
    · trivial
  · trivial
theorem compF_lm {t : T} {own : List Nat} {w : W} {fc fe : Env → R (Q × Env)} (hc : ∀ env, (fc env).lm env) (he : ∀ env, (fe env).lm env) : ∀ (n k : Nat) (acc : List D) (env : Env), (compF t own w fc fe n k acc env).lm env
  | 0, _, _, _ => trivial
  | n + 1, k, acc, env => by
    unfold compF
    split
    · exact R.lm.ok
    · trivial
    · split
      · trivial
      · rename_i env1 h1
        have l1 := tput_lm h1 (fun x e => by cases e; rfl)
        have lc := hc env1
        split
        · rename_i env2 h2
          rw [h2] at lc
          have le := he env2
          split
          · rename_i q env3 h3
            rw [h3] at le
            split
            · split
              · have := compF_lm (t := t) (own := own) (w := w) hc he n (k + 1) (acc ++ [‹D›]) (wipe env3 own)
                have l3 : LM env (wipe env3 own) := (l1.trans (LM.trans lc le)).trans (wipe_lm _ _)
                revert this
                cases compF t own w fc fe n (k + 1) (acc ++ [‹D›]) (wipe env3 own) with
                | stuck => intro _; trivial
                | exc c d e => intro q; exact LM.trans l3 q
                | ok p => intro q; exact LM.trans l3 q
              · trivial
            · trivial
          · trivial
        · rename_i env2 h2
          rw [h2] at lc
          have := compF_lm (t := t) (own := own) (w := w) hc he n (k + 1) acc (wipe env2 own)
          have l3 : LM env (wipe env2 own) := (l1.trans lc).trans (wipe_lm _ _)
          revert this
          cases compF t own w fc fe n (k + 1) acc (wipe env2 own) with
          | stuck => intro _; trivial
          | exc c d e => intro q; exact LM.trans l3 q
          | ok p => intro q; exact LM.trans l3 q
        · trivial
theorem test1_lm {x : R (Q × Env)} {env : Env} (h : x.lm env) : (test1 x).lm env := by
  unfold test1
  refine R.lm.bind h fun q e1 => ?_
  dsimp only
  split
  · split
    · exact R.lm.ok
    · trivial
  · trivial
theorem asT_lm {t : Bool} {x : R (Q × Env)} {env : Env} (h : x.lm env) : (asT t x).lm env := by
  unfold asT
  cases t with
  | false => exact h
  | true => exact R.lm.bind (test1_lm h) fun k e1 => R.lm.ok
variable (r : Fs)
mutual
theorem denG_lm : ∀ (e : E) (t : Bool) (env : Env), (denG r e t env).lm env
  | .var i, t, env => by
    simp only [denG]
    refine asT_lm ?_
    split <;> first | exact R.lm.ok | trivial
  | .frz i, t, env => by
    simp only [denG]
    refine asT_lm ?_
    split
    · exact R.lm.ok
    · exact LM.set fun x e hx => by cases e; cases hx
    · trivial
  | .cst d, t, env => asT_lm R.lm.ok
  | .op o es, t, env => by
    simp only [denG]
    refine asT_lm (R.lm.bind (denEs_lm es env) fun qs e1 => ?_)
    dsimp only
    split
    · split
      · exact R.lm.ok
      · trivial
    · trivial
  | .call f es, t, env => asT_lm (R.lm.bind (denEs_lm es env) fun qs e1 => callF_lm r f qs e1)
  | .callK f ks es, t, env => asT_lm (R.lm.bind (denKs_lm es env) fun ds e1 => callF_lm r f ((order D.non ks ds).map asQ) e1)
  | .tup es, t, env => by
    simp only [denG]
    refine asT_lm (R.lm.bind (denKs_lm es env) fun ds e1 => ?_)
    dsimp only
    split
    · exact R.lm.ok
    · trivial
  | .lst es, t, env => by
    simp only [denG]
    refine asT_lm (R.lm.bind (denKs_lm es env) fun ds e1 => ?_)
    dsimp only
    split
    · exact R.lm.ok
    · trivial
  | .ite c a b, t, env => by
    simp only [denG]
    refine asT_lm (R.lm.bind (denG_lm c true env) fun k e1 => ?_)
    dsimp only
    split
    · exact denG_lm a false e1
    · exact denG_lm b false e1
    · trivial
  | .and a b, t, env => by
    simp only [denG]
    refine R.lm.bind (denG_lm a t env) fun q e1 => ?_
    dsimp only
    split
    · exact denG_lm b t e1
    · exact R.lm.ok
    · trivial
  | .or a b, t, env => by
    simp only [denG]
    refine R.lm.bind (denG_lm a t env) fun q e1 => ?_
    dsimp only
    split
    · exact denG_lm b t e1
    · exact R.lm.ok
    · trivial
  | .not a, t, env => by
    simp only [denG]
    refine R.lm.bind (denG_lm a t env) fun q e1 => ?_
    dsimp only
    split
    · exact R.lm.ok
    · trivial
  | .chain o p a b c, t, env => by
    simp only [denG]
    refine asT_lm (R.lm.bind (denG_lm a false env) fun x e1 => R.lm.bind (denG_lm b false e1) fun y e2 => ?_)
    dsimp only
    split
    · split
      · refine R.lm.bind (denG_lm c false e2) fun u e3 => ?_
        dsimp only
        split
        · split
          · exact R.lm.ok
          · trivial
        · trivial
      · exact R.lm.ok
      · trivial
    · trivial
  | .comp tg own it c e, t, env => by
    simp only [denG]
    refine asT_lm (R.lm.bind (denI_lm it env) fun w e1 => ?_)
    dsimp only
    split
    · have h := compF_lm (t := tg) (own := own) (w := w) (fun env => denC_lm c env) (fun env => denG_lm e false env) (w.len e1 + 1) 0 [] (wipe e1 own)
      split
      · rename_i ds e2 h2
        rw [h2] at h
        exact back_lm _ _ _ ((wipe_lm _ _).trans h)
      · trivial
    · trivial
  | .pop i, t, env => by
    simp only [denG]
    refine asT_lm ?_
    split
    · rename_i io xs hs
      split
      · exact LM.set fun x e hx => lent_of hs (by cases e; cases io <;> simp_all [notLent])
      · trivial
    · trivial
  | .popAt i e, t, env => by
    simp only [denG]
    refine asT_lm ?_
    split
    · refine R.lm.bind (denG_lm e false env) fun q e1 => ?_
      dsimp only
      split
      · rename_i k io xs h1 hs
        split
        · split
          · split
            · exact LM.set fun x e hx => lent_of hs (by cases e; cases io <;> simp_all [notLent])
            · trivial
          · trivial
        · trivial
      · trivial
    · trivial
  | .exAt i, t, env => by
    simp only [denG]
    refine asT_lm ?_
    split
    · exact R.lm.ok
    · trivial
  | .eqR k a b, t, env => by
    simp only [denG]
    refine asT_lm (R.lm.bind (denG_lm a false env) fun x e1 => ?_)
    dsimp only
    split
    · split
      · refine R.lm.bind (denG_lm b false e1) fun y e2 => ?_
        dsimp only
        split
        · split
          · exact R.lm.ok
          · trivial
        · trivial
      · trivial
    · trivial
theorem denC_lm : ∀ (c : C) (env : Env), (denC r c env).lm env
  | .yes, env => by rw [denC]; exact R.lm.ok
  | .one e, env => denG_lm e true env
theorem denEs_lm : ∀ (es : Es) (env : Env), (denEs r es env).lm env
  | .nil, env => R.lm.ok
  | .cons e es, env => R.lm.bind (denG_lm e false env) fun q e1 => R.lm.bind (denEs_lm es e1) fun qs e2 => R.lm.ok
theorem denKs_lm : ∀ (es : Es) (env : Env), (denKs r es env).lm env
  | .nil, env => R.lm.ok
  | .cons e es, env => by
    simp only [denKs]
    refine R.lm.bind (denG_lm e false env) fun q e1 => ?_
    dsimp only
    split
    · exact R.lm.bind (denKs_lm es e1) fun qs e2 => R.lm.ok
    · trivial
theorem denI_lm : ∀ (it : I) (env : Env), (denI r it env).lm env
  | .seq e, env => by
    simp only [denI]
    refine R.lm.bind (denG_lm e false env) fun q e1 => ?_
    dsimp only
    split
    · split
      · exact R.lm.ok
      · exact LM.set fun x e hx => by cases e; cases hx
      · trivial
    · split
      · split
        · exact R.lm.ok
        · trivial
      · trivial
  | .rg1 e, env => by
    simp only [denI]
    refine R.lm.bind (denG_lm e false env) fun q e1 => ?_
    dsimp only
    split
    · split
      · exact R.lm.ok
      · trivial
    · trivial
  | .rg2 a b, env => by
    simp only [denI]
    refine R.lm.bind (denG_lm a false env) fun x e1 => R.lm.bind (denG_lm b false e1) fun y e2 => ?_
    dsimp only
    split
    · split
      · exact R.lm.ok
      · trivial
    · trivial
  | .rg3 a b c, env => trivial
  | .enum e, env => by
    simp only [denI]
    refine R.lm.bind (denG_lm e false env) fun q e1 => ?_
    dsimp only
    split
    · split
      · exact R.lm.ok
      · exact LM.set fun x e hx => by cases e; cases hx
      · trivial
    · split
      · split
        · exact R.lm.ok
        · trivial
      · trivial
  | .zip a b, env => by
    simp only [denI]
    refine R.lm.bind (denG_lm a false env) fun x e1 => ?_
    dsimp only
    split
    · refine R.lm.bind (denG_lm b false e1) fun y e2 => ?_
      dsimp only
      split
      · split
        · exact R.lm.ok
        · trivial
      · trivial
    · trivial
  | .rev e, env => by
    simp only [denI]
    refine R.lm.bind (denG_lm e false env) fun q e1 => ?_
    dsimp only
    split
    · split
      · exact R.lm.ok
      · trivial
    · trivial
end
theorem denE_lm (e : E) (env : Env) : (denE r e env).lm env := denG_lm r e false env
theorem denT_lm (e : E) (env : Env) : (denT r e env).lm env := by
  unfold denT
  refine R.lm.bind (denG_lm r e true env) fun q e1 => ?_
  dsimp only
  split
  · exact R.lm.ok
  · trivial
end Rx

/-! RxRel -/
/-! RxRel: how whole values lie in the abstract heap; what a step leaves as it was. -/
set_option linter.all false
set_option Elab.async false
set_option maxRecDepth 100000
namespace Rx
open PySem L2

abbrev atK : Str := PySem.Str.ofString "at"

/-- one heap within another -/
def Le (F H : Hp) : Prop := ∀ a o, F a = some o → H a = some o
theorem Le.refl (F : Hp) : Le F F := fun _ _ h => h
theorem Le.trans {F G H : Hp} (a : Le F G) (b : Le G H) : Le F H := fun c o h => b c o (a c o h)

mutual
/-- the value v is the tree d, all of it in F, which never changes -/
def Rep (F : Hp) : D → V → Prop
  | .non, v => v = .non
  | .bl b, v => v = .bl b
  | .int i, v => v = .int i
  | .str x, v => v = .str x
  | .tup ds, v => ∃ a vs, v = .ref a ∧ F a = some (.tup vs) ∧ Reps F ds vs
  | .lst ds, v => ∃ a vs, v = .ref a ∧ F a = some (.lst vs) ∧ Reps F ds vs
  | .ins _ _, _ => False
def Reps (F : Hp) : List D → List V → Prop
  | [], vs => vs = []
  | d :: ds, vs => ∃ v r, vs = v :: r ∧ Rep F d v ∧ Reps F ds r
end

mutual
theorem Rep.mono {F G : Hp} (h : Le F G) : ∀ {d : D} {v : V}, Rep F d v → Rep G d v
  | .non, _, x => by simpa [Rep] using x
  | .bl _, _, x => by simpa [Rep] using x
  | .int _, _, x => by simpa [Rep] using x
  | .str _, _, x => by simpa [Rep] using x
  | .tup ds, _, x => by
    simp only [Rep] at x ⊢
    obtain ⟨a, vs, e, q, r⟩ := x
    exact ⟨a, vs, e, h _ _ q, Reps.mono h r⟩
  | .lst ds, _, x => by
    simp only [Rep] at x ⊢
    obtain ⟨a, vs, e, q, r⟩ := x
    exact ⟨a, vs, e, h _ _ q, Reps.mono h r⟩
  | .ins _ _, _, x => by simp [Rep] at x
theorem Reps.mono {F G : Hp} (h : Le F G) : ∀ {ds : List D} {vs : List V}, Reps F ds vs → Reps G ds vs
  | [], _, x => by simpa [Reps] using x
  | d :: ds, _, x => by
    simp only [Reps] at x ⊢
    obtain ⟨v, r, e, q, t⟩ := x
    exact ⟨v, r, e, Rep.mono h q, Reps.mono h t⟩
end
theorem Reps.len {F : Hp} : ∀ {ds : List D} {vs : List V}, Reps F ds vs → vs.length = ds.length
  | [], _, x => by simp only [Reps] at x; subst x; rfl
  | d :: ds, _, x => by
    simp only [Reps] at x
    obtain ⟨v, r, e, _, t⟩ := x
    rw [e, List.length_cons, List.length_cons, Reps.len t]
theorem Reps.nil {F : Hp} : Reps F [] [] := by simp [Reps]
theorem Reps.cons {F : Hp} {d : D} {v : V} {ds : List D} {vs : List V} (a : Rep F d v) (b : Reps F ds vs) : Reps F (d :: ds) (v :: vs) := by
  simp only [Reps]
  exact ⟨v, vs, rfl, a, b⟩
theorem Reps.cons_inv {F : Hp} {d : D} {ds : List D} {vs : List V} (x : Reps F (d :: ds) vs) : ∃ v r, vs = v :: r ∧ Rep F d v ∧ Reps F ds r := by
  simpa only [Reps] using x
theorem Reps.nil_inv {F : Hp} {vs : List V} (x : Reps F [] vs) : vs = [] := by simpa only [Reps] using x
theorem Reps.append {F : Hp} : ∀ {ds es : List D} {vs ws : List V}, Reps F ds vs → Reps F es ws → Reps F (ds ++ es) (vs ++ ws)
  | [], es, vs, ws, a, b => by rw [Reps.nil_inv a]; exact b
  | d :: ds, es, vs, ws, a, b => by
    obtain ⟨v, r, e, q, t⟩ := a.cons_inv
    subst e
    exact Reps.cons q (Reps.append t b)
theorem Reps.take {F : Hp} : ∀ {ds : List D} {vs : List V} (n : Nat), Reps F ds vs → Reps F (ds.take n) (vs.take n)
  | _, _, 0, _ => by simp [Reps]
  | [], vs, n + 1, a => by rw [a.nil_inv]; simp [Reps]
  | d :: ds, vs, n + 1, a => by
    obtain ⟨v, r, e, q, t⟩ := a.cons_inv
    subst e
    exact Reps.cons q (Reps.take n t)
theorem Reps.drop {F : Hp} : ∀ {ds : List D} {vs : List V} (n : Nat), Reps F ds vs → Reps F (ds.drop n) (vs.drop n)
  | _, _, 0, a => a
  | [], vs, n + 1, a => by rw [a.nil_inv]; simp [Reps]
  | d :: ds, vs, n + 1, a => by
    obtain ⟨v, r, e, q, t⟩ := a.cons_inv
    subst e
    exact Reps.drop n t
theorem Reps.reverse {F : Hp} : ∀ {ds : List D} {vs : List V}, Reps F ds vs → Reps F ds.reverse vs.reverse
  | [], vs, a => by rw [a.nil_inv]; simp [Reps]
  | d :: ds, vs, a => by
    obtain ⟨v, r, e, q, t⟩ := a.cons_inv
    subst e
    rw [List.reverse_cons, List.reverse_cons]
    exact Reps.append (Reps.reverse t) (Reps.cons q Reps.nil)
theorem Reps.set {F : Hp} {d : D} {v : V} (q : Rep F d v) : ∀ {ds : List D} {vs : List V} (n : Nat), Reps F ds vs → Reps F (ds.set n d) (vs.set n v)
  | [], vs, n, a => by rw [a.nil_inv]; simp [Reps]
  | e :: ds, vs, 0, a => by
    obtain ⟨w, r, e, _, t⟩ := a.cons_inv
    subst e
    exact Reps.cons q t
  | e :: ds, vs, n + 1, a => by
    obtain ⟨w, r, e, p, t⟩ := a.cons_inv
    subst e
    exact Reps.cons p (Reps.set q n t)
theorem Reps.erase {F : Hp} : ∀ {ds : List D} {vs : List V} (n : Nat), Reps F ds vs → Reps F (ds.eraseIdx n) (vs.eraseIdx n)
  | [], vs, n, a => by rw [a.nil_inv]; simp [Reps]
  | e :: ds, vs, 0, a => by
    obtain ⟨w, r, e, _, t⟩ := a.cons_inv
    subst e
    exact t
  | e :: ds, vs, n + 1, a => by
    obtain ⟨w, r, e, p, t⟩ := a.cons_inv
    subst e
    exact Reps.cons p (Reps.erase n t)
theorem Reps.dropLast {F : Hp} : ∀ {ds : List D} {vs : List V}, Reps F ds vs → Reps F ds.dropLast vs.dropLast
  | [], vs, a => by rw [a.nil_inv]; simp [Reps]
  | [d], vs, a => by
    obtain ⟨v, r, e, q, t⟩ := a.cons_inv
    rw [e, t.nil_inv]
    exact Reps.nil
  | d :: d2 :: ds, vs, a => by
    obtain ⟨v, r, e, q, t⟩ := a.cons_inv
    obtain ⟨v2, r2, e2, q2, t2⟩ := t.cons_inv
    subst e e2
    exact Reps.cons q (Reps.dropLast t)
theorem Reps.get {F : Hp} : ∀ {ds : List D} {vs : List V} {i : Nat} {d : D}, Reps F ds vs → ds[i]? = some d → ∃ v, vs[i]? = some v ∧ Rep F d v
  | [], _, _, _, _, h => by simp at h
  | d :: ds, vs, 0, x, a, h => by
    obtain ⟨v, r, e, q, t⟩ := a.cons_inv
    subst e
    simp at h
    subst h
    exact ⟨v, by simp, q⟩
  | d :: ds, vs, i + 1, x, a, h => by
    obtain ⟨v, r, e, q, t⟩ := a.cons_inv
    subst e
    obtain ⟨w, h1, h2⟩ := Reps.get (i := i) (d := x) t (by simpa using h)
    exact ⟨w, by simpa using h1, h2⟩
theorem Reps.rep {F : Hp} {ds : List D} {vs : List V} (a : Reps F ds vs) : ∀ k : Nat, Reps F (List.replicate k ds).flatten (List.replicate k vs).flatten
  | 0 => by simp [Reps]
  | k + 1 => by
    rw [List.replicate_succ, List.replicate_succ, List.flatten_cons, List.flatten_cons]
    exact Reps.append a (Reps.rep a k)
theorem Reps.ints {F : Hp} : ∀ ns : List Int, Reps F (ns.map .int) (ns.map V.int)
  | [] => Reps.nil
  | n :: ns => Reps.cons (by simp [Rep]) (Reps.ints ns)
theorem ints?_reps {F : Hp} : ∀ {ds : List D} {vs : List V} {ns : List Int}, ints? ds = some ns → Reps F ds vs → vs = ns.map V.int
  | [], vs, ns, h, a => by
    simp only [ints?] at h
    cases h
    rw [a.nil_inv]
    rfl
  | .int i :: ds, vs, ns, h, a => by
    simp only [ints?] at h
    obtain ⟨v, r, e, q, t⟩ := a.cons_inv
    cases hr : ints? ds with
    | none => rw [hr] at h; simp at h
    | some ms =>
      rw [hr] at h
      simp at h
      subst h e
      rw [ints?_reps hr t]
      simp [Rep] at q
      rw [q]
      rfl
  | .non :: _, _, _, h, _ => by simp [ints?] at h
  | .bl _ :: _, _, _, h, _ => by simp [ints?] at h
  | .str _ :: _, _, _, h, _ => by simp [ints?] at h
  | .tup _ :: _, _, _, h, _ => by simp [ints?] at h
  | .lst _ :: _, _, _, h, _ => by simp [ints?] at h
  | .ins _ _ :: _, _, _, h, _ => by simp [ints?] at h
theorem bools?_reps {F : Hp} : ∀ {ds : List D} {vs : List V} {bs : List Bool}, bools? ds = some bs → Reps F ds vs → vs = bs.map V.bl
  | [], vs, ns, h, a => by
    simp only [bools?] at h
    cases h
    rw [a.nil_inv]
    rfl
  | .bl i :: ds, vs, ns, h, a => by
    simp only [bools?] at h
    obtain ⟨v, r, e, q, t⟩ := a.cons_inv
    cases hr : bools? ds with
    | none => rw [hr] at h; simp at h
    | some ms =>
      rw [hr] at h
      simp at h
      subst h e
      rw [bools?_reps hr t]
      simp [Rep] at q
      rw [q]
      rfl
  | .non :: _, _, _, h, _ => by simp [bools?] at h
  | .int _ :: _, _, _, h, _ => by simp [bools?] at h
  | .str _ :: _, _, _, h, _ => by simp [bools?] at h
  | .tup _ :: _, _, _, h, _ => by simp [bools?] at h
  | .lst _ :: _, _, _, h, _ => by simp [bools?] at h
  | .ins _ _ :: _, _, _, h, _ => by simp [bools?] at h

/-- what a slot or an answer holds; as: the lists that belong to it alone. xd: the dict of the error that is held, at xa -/
def RM (F H : Hp) (xa xd : Addr) : M → V → List Addr → Prop
  | .val d, v, as => as = [] ∧ Rep F d v
  | .own _ xs, v, as => ∃ a vs, v = .ref a ∧ as = [a] ∧ H a = some (.lst vs) ∧ F a = none ∧ Reps F xs vs
  | .deal _ b n, v, as => ∃ a c, v = .ref a ∧ as = [a, c] ∧ H a = some (.lst [.ref c, .int n]) ∧ H c = some (.lst (b.2.map V.int)) ∧ F a = none ∧ (F c = none ∧ c = b.1)
  | .ex _ d, v, as => as = [] ∧ v = .ref xa ∧ ∃ w, H xd = some (.xd [(atK, w)]) ∧ Rep F d w
def RS (F H : Hp) (xa xd : Addr) : Option M → Option V → List Addr → Prop
  | none, _, as => as = []
  | some m, o, as => ∃ v, o = some v ∧ RM F H xa xd m v as
def RSs (F H : Hp) (xa xd : Addr) : Env → St → List Addr → Prop
  | [], σ, as => σ = [] ∧ as = []
  | m :: env, σ, as => ∃ o r x y, σ = o :: r ∧ as = x ++ y ∧ RS F H xa xd m o x ∧ RSs F H xa xd env r y

structure Rel (xa xd : Addr) (F H : Hp) (env : Env) (σ : St) (O : List Addr) : Prop where
  le : Le F H
  ss : RSs F H xa xd env σ O
  nd : O.Nodup

/-- from F, H with the own lists O to F', H' with O' -/
structure Step (F H : Hp) (O : List Addr) (F' H' : Hp) (O' : List Addr) : Prop where
  grow : Le F F'
  keep : ∀ a o, H a = some o → a ∉ O → H' a = some o
  froz : ∀ a o, F' a = some o → F a = some o ∨ H a = none ∨ a ∈ O
  ownd : ∀ a ∈ O', a ∈ O ∨ H a = none
  there : ∀ a o, H a = some o → ∃ o', H' a = some o'
theorem Step.refl (F H : Hp) (O : List Addr) : Step F H O F H O := ⟨Le.refl F, fun _ _ h _ => h, fun _ _ h => .inl h, fun _ h => .inl h, fun _ o h => ⟨o, h⟩⟩
theorem Step.back {F H F' H' : Hp} {O O' : List Addr} (s : Step F H O F' H' O') {a : Addr} (h : H' a = none) : H a = none := by
  cases e : H a with
  | none => rfl
  | some o =>
    obtain ⟨o', q⟩ := s.there a o e
    rw [h] at q; cases q
theorem Step.trans {F H F1 H1 F2 H2 : Hp} {O O1 O2 : List Addr} (s : Step F H O F1 H1 O1) (t : Step F1 H1 O1 F2 H2 O2) : Step F H O F2 H2 O2 where
  grow := s.grow.trans t.grow
  keep := fun a o h ho => by
    have h1 := s.keep a o h ho
    refine t.keep a o h1 fun ho1 => ?_
    rcases s.ownd a ho1 with z | z
    · exact ho z
    · rw [h] at z; cases z
  froz := fun a o h => by
    rcases t.froz a o h with z | z | z
    · exact s.froz a o z
    · exact .inr (.inl (s.back z))
    · rcases s.ownd a z with y | y
      · exact .inr (.inr y)
      · exact .inr (.inl y)
  ownd := fun a h => by
    rcases t.ownd a h with z | z
    · exact s.ownd a z
    · exact .inr (s.back z)
  there := fun a o h => by
    obtain ⟨o', q⟩ := s.there a o h
    exact t.there a o' q
/-- fewer own lists behind -/
theorem Step.less {F H F' H' : Hp} {O O' O2 : List Addr} (s : Step F H O F' H' O') (h : ∀ a ∈ O2, a ∈ O') : Step F H O F' H' O2 :=
  ⟨s.grow, s.keep, s.froz, fun a ha => s.ownd a (h a ha), s.there⟩

theorem RM.lst {F H : Hp} {xa xd : Addr} : ∀ {m : M} {v : V} {as : List Addr}, RM F H xa xd m v as → ∀ a ∈ as, (∃ vs, H a = some (.lst vs)) ∧ F a = none
  | .val _, _, _, h, a, ha => by obtain ⟨e, _⟩ := h; subst e; cases ha
  | .own _ _, _, _, h, a, ha => by
    obtain ⟨b, vs, _, e, h1, h2, _⟩ := h
    subst e
    cases List.mem_singleton.mp ha
    exact ⟨⟨_, h1⟩, h2⟩
  | .deal _ _ _, _, _, h, a, ha => by
    obtain ⟨b, c, _, e, h1, h2, h3, h4⟩ := h
    subst e
    rcases List.mem_cons.mp ha with e | ha
    · subst e; exact ⟨⟨_, h1⟩, h3⟩
    · cases List.mem_singleton.mp ha
      exact ⟨⟨_, h2⟩, h4.1⟩
  | .ex _ _, _, _, h, a, ha => by obtain ⟨e, _⟩ := h; subst e; cases ha
theorem RSs.lst {F H : Hp} {xa xd : Addr} : ∀ {env : Env} {σ : St} {O : List Addr}, RSs F H xa xd env σ O → ∀ a ∈ O, (∃ vs, H a = some (.lst vs)) ∧ F a = none
  | [], _, _, h, a, ha => by obtain ⟨_, e⟩ := h; subst e; cases ha
  | m :: env, _, _, h, a, ha => by
    obtain ⟨o, r, x, y, _, e, h1, h2⟩ := h
    subst e
    rcases List.mem_append.mp ha with z | z
    · cases m with
      | none => rw [show x = [] from h1] at z; cases z
      | some m =>
        obtain ⟨v, _, h3⟩ := h1
        exact h3.lst a z
    · exact RSs.lst h2 a z
/-- what belongs to others than O stays as it was told -/
theorem RM.stay {F H F' H' : Hp} {O O' : List Addr} {xa xd : Addr} (s : Step F H O F' H' O') (hO : ∀ a ∈ O, ∃ vs, H a = some (.lst vs)) : ∀ {m : M} {v : V} {as : List Addr}, RM F H xa xd m v as → (∀ a ∈ as, a ∉ O) → RM F' H' xa xd m v as
  | .val _, _, _, h, _ => ⟨h.1, h.2.mono s.grow⟩
  | .own _ _, _, _, h, n => by
    obtain ⟨b, vs, e1, e, h1, h2, h3⟩ := h
    subst e
    have nb := n b List.mem_cons_self
    refine ⟨b, vs, e1, rfl, s.keep _ _ h1 nb, ?_, h3.mono s.grow⟩
    cases q : F' b with
    | none => rfl
    | some o =>
      rcases s.froz b o q with z | z | z
      · rw [h2] at z; cases z
      · rw [h1] at z; cases z
      · exact absurd z nb
  | .deal _ _ _, _, _, h, n => by
    obtain ⟨b, c, e1, e, h1, h2, h3, h4⟩ := h
    subst e
    have nb := n b List.mem_cons_self
    have nc := n c (List.mem_cons_of_mem _ List.mem_cons_self)
    obtain ⟨h4, h5⟩ := h4
    refine ⟨b, c, e1, rfl, s.keep _ _ h1 nb, s.keep _ _ h2 nc, ?_, ?_, h5⟩
    · cases q : F' b with
      | none => rfl
      | some o =>
        rcases s.froz b o q with z | z | z
        · rw [h3] at z; cases z
        · rw [h1] at z; cases z
        · exact absurd z nb
    · cases q : F' c with
      | none => rfl
      | some o =>
        rcases s.froz c o q with z | z | z
        · rw [h4] at z; cases z
        · rw [h2] at z; cases z
        · exact absurd z nc
  | .ex _ _, _, _, h, _ => by
    obtain ⟨e, e2, w, h1, h2⟩ := h
    refine ⟨e, e2, w, s.keep _ _ h1 fun z => ?_, h2.mono s.grow⟩
    obtain ⟨vs, q⟩ := hO _ z
    rw [h1] at q; cases q
end Rx

/-! RxExp -/
/-! RxExp: what an expression's meaning says of the machine: the judgement over HandS, its base rules. -/
set_option linter.all false
set_option Elab.async false
set_option maxRecDepth 100000
namespace Rx
open PySem L2

theorem slot_some {i : Nat} {env : Env} {m : M} (h : slot i env = some m) : env[i]? = some (some m) := by
  unfold slot at h
  cases e : env[i]? with
  | none => rw [e] at h; simp at h
  | some o => rw [e] at h; simp at h; rw [h]
theorem slot_of {i : Nat} {env : Env} {o : Option M} (h : env[i]? = some o) : slot i env = o := by
  unfold slot; rw [h]; simp

theorem RSs.len {F H : Hp} {xa xd : Addr} : ∀ {env : Env} {σ : St} {O : List Addr}, RSs F H xa xd env σ O → σ.length = env.length
  | [], _, _, h => by rw [h.1]; rfl
  | m :: env, _, _, h => by
    obtain ⟨o, r, x, y, e, _, _, h2⟩ := h
    rw [e, List.length_cons, List.length_cons, RSs.len h2]
theorem RSs.map {F H F' H' : Hp} {xa xd : Addr} : ∀ {env : Env} {σ : St} {O : List Addr}, RSs F H xa xd env σ O →
    (∀ m v bs, RM F H xa xd m v bs → (∀ a ∈ bs, a ∈ O) → RM F' H' xa xd m v bs) → RSs F' H' xa xd env σ O
  | [], _, _, h, _ => h
  | m :: env, _, _, h, k => by
    obtain ⟨o, r, x, y, e, e2, h1, h2⟩ := h
    subst e e2
    refine ⟨o, r, x, y, rfl, rfl, ?_, RSs.map h2 fun m v bs q ha => k m v bs q fun a h => List.mem_append_right _ (ha a h)⟩
    cases m with
    | none => exact h1
    | some m =>
      obtain ⟨v, e3, h3⟩ := h1
      exact ⟨v, e3, k m v x h3 fun a h => List.mem_append_left _ h⟩
/-- one slot, the others beside it -/
theorem RSs.focus {F H : Hp} {xa xd : Addr} : ∀ {env : Env} {σ : St} {O : List Addr} {i : Nat} {m : Option M}, RSs F H xa xd env σ O → env[i]? = some m →
    ∃ o O1 as O2, σ[i]? = some o ∧ O = O1 ++ (as ++ O2) ∧ RS F H xa xd m o as ∧
      ∀ F' H' m' o' as', (∀ m v bs, RM F H xa xd m v bs → (∀ a ∈ bs, a ∈ O1 ++ O2) → RM F' H' xa xd m v bs) → RS F' H' xa xd m' o' as' → RSs F' H' xa xd (env.set i m') (σ.set i o') (O1 ++ (as' ++ O2))
  | [], _, _, i, m, _, e => by simp at e
  | m0 :: env, _, _, 0, m, h, e => by
    obtain ⟨o, r, x, y, e1, e2, h1, h2⟩ := h
    subst e1 e2
    simp at e
    subst e
    refine ⟨o, [], x, y, by simp, by simp, h1, fun F' H' m' o' as' k hr => ?_⟩
    refine ⟨o', r, as', y, by simp, by simp, hr, RSs.map h2 fun m v bs q ha => k m v bs q (by simpa using ha)⟩
  | m0 :: env, _, _, i + 1, m, h, e => by
    obtain ⟨o, r, x, y, e1, e2, h1, h2⟩ := h
    subst e1 e2
    obtain ⟨o', O1, as, O2, g1, g2, g3, g4⟩ := RSs.focus (i := i) (m := m) h2 (by simpa using e)
    refine ⟨o', x ++ O1, as, O2, by simpa using g1, by rw [g2, List.append_assoc], g3, fun F' H' m' o2 as' k hr => ?_⟩
    refine ⟨o, r.set i o2, x, O1 ++ (as' ++ O2), by simp, by simp, ?_, g4 F' H' m' o2 as' (fun m v bs q ha => k m v bs q fun a h => by
      rcases List.mem_append.mp (ha a h) with z | z
      · simp [z]
      · simp [z]) hr⟩
    cases m0 with
    | none => exact h1
    | some m0 =>
      obtain ⟨v, e3, h3⟩ := h1
      exact ⟨v, e3, k m0 v x h3 fun a h => by simp [h]⟩

/-- the error that is held, and where the errors' classes stand -/
structure Cz where
  xa : Addr
  xd : Addr
  cl : Nat → Addr

def RQ (z : Cz) (F H : Hp) (σ : St) : Q → V → List Addr → Prop
  | .mv (.val d), v, t => RM F H z.xa z.xd (.val d) v t
  | .mv (.own false xs), v, t => RM F H z.xa z.xd (.own false xs) v t
  | .mv (.deal false b n), v, t => RM F H z.xa z.xd (.deal false b n) v t
  | .mv _, _, _ => False
  | .ref i, v, t => t = [] ∧ σ[i]? = some (some v)
def RQs (z : Cz) (F H : Hp) (σ : St) : List Q → List V → List Addr → Prop
  | [], vs, t => vs = [] ∧ t = []
  | q :: qs, vs, t => ∃ v r x y, vs = v :: r ∧ t = x ++ y ∧ RQ z F H σ q v x ∧ RQs z F H σ qs r y
abbrev Cz.Rel (z : Cz) := Rx.Rel z.xa z.xd

/-- new since H, nobody's -/
def Fresh (H : Hp) (O t : List Addr) : Prop := t.Nodup ∧ ∀ a ∈ t, a ∉ O ∧ H a = none
theorem Fresh.nil (H : Hp) (O : List Addr) : Fresh H O [] := ⟨List.nodup_nil, fun _ h => nomatch h⟩

/-- what is wanted behind a meaning: K of what is well, W of an error -/
def wX {α : Type} (z : Cz) (W : WX) (x : R (α × Env)) (F H : Hp) (O : List Addr) (σ : St) (K : α → Hp → Hp → List Addr → Prop) : Prop := match x with
  | .ok (a, env') => ∀ F' H' O', Step F H O F' H' O' → z.Rel F' H' env' σ O' → K a F' H' O'
  | .exc k d env' => ∀ F' H' O' dx v, Step F H O F' H' O' → z.Rel F' H' env' σ O' → Rep F' d v → H' dx = some (.xd [(atK, v)]) → W (.ref (z.cl k)) (some dx) σ H'
  | .stuck => False

theorem wX.bind0 {α β : Type} {z : Cz} {W : WX} {x : R (α × Env)} {k : α × Env → R (β × Env)} {F H : Hp} {O : List Addr} {σ : St} {K : β → Hp → Hp → List Addr → Prop} {K1 : α → Hp → Hp → List Addr → Prop}
    (h : wX z W (x.bind k) F H O σ K) (hK : ∀ a env1 F1 H1 O1, x = .ok (a, env1) → Step F H O F1 H1 O1 → z.Rel F1 H1 env1 σ O1 → wX z W (k (a, env1)) F H O σ K → K1 a F1 H1 O1) : wX z W x F H O σ K1 := by
  cases x with
  | stuck => exact h
  | exc c d e => exact h
  | ok p =>
    obtain ⟨a, env1⟩ := p
    intro F1 H1 O1 s1 r1
    exact hK a env1 F1 H1 O1 rfl s1 r1 h
/-- the wish from a later state -/
theorem wX.shift {α : Type} {z : Cz} {W : WX} {x : R (α × Env)} {F H F1 H1 : Hp} {O O1 : List Addr} {σ : St} {K : α → Hp → Hp → List Addr → Prop} (s1 : Step F H O F1 H1 O1) (h : wX z W x F H O σ K) : wX z W x F1 H1 O1 σ K := by
  cases x with
  | stuck => exact h
  | exc c d e => exact fun F' H' O' dx v s r rp hd => h F' H' O' dx v (s1.trans s) r rp hd
  | ok p => exact fun F' H' O' s r => h F' H' O' (s1.trans s) r
theorem wX.bind {α β : Type} {z : Cz} {W : WX} {x : R (α × Env)} {k : α × Env → R (β × Env)} {F H : Hp} {O : List Addr} {σ : St} {K : β → Hp → Hp → List Addr → Prop} {K1 : α → Hp → Hp → List Addr → Prop}
    (h : wX z W (x.bind k) F H O σ K) (hK : ∀ a env1 F1 H1 O1, x = .ok (a, env1) → Step F H O F1 H1 O1 → z.Rel F1 H1 env1 σ O1 → wX z W (k (a, env1)) F1 H1 O1 σ K → K1 a F1 H1 O1) : wX z W x F H O σ K1 :=
  wX.bind0 h fun a env1 F1 H1 O1 e s1 r1 w => hK a env1 F1 H1 O1 e s1 r1 (w.shift s1)
theorem wX.mono {α : Type} {z : Cz} {W : WX} {x : R (α × Env)} {F H : Hp} {O : List Addr} {σ : St} {K K' : α → Hp → Hp → List Addr → Prop} (h : wX z W x F H O σ K) (k : ∀ a F' H' O', Step F H O F' H' O' → K a F' H' O' → K' a F' H' O') : wX z W x F H O σ K' := by
  cases x with
  | stuck => exact h
  | exc c d e => exact h
  | ok p => exact fun F' H' O' s r => k _ _ _ _ s (h F' H' O' s r)

section
variable (z : Cz) (W : WX) (r : Fs)
def trE (e : E) : TE := fun σ H K => ∃ F O env, z.Rel F H env σ O ∧ wX z W (denE r e env) F H O σ fun q F' H' O' => ∀ v t, RQ z F' H' σ q v t → Fresh H O' t → K v H'
def trEs (es : Es) : TA := fun σ H K => ∃ F O env, z.Rel F H env σ O ∧ wX z W (denEs r es env) F H O σ fun qs F' H' O' => ∀ vs t, RQs z F' H' σ qs vs t → Fresh H O' t → K vs H'
def trT (e : E) : TT := fun σ H K => ∃ F O env, z.Rel F H env σ O ∧ wX z W (denT r e env) F H O σ fun b F' H' O' => K b H'
end

theorem PE.imp {X : Cx} {e : Expr} {t t' : TE} (h : PE X e t) (k : ∀ σ H K, t' σ H K → t σ H K) : PE X e t' := ⟨fun pins s σ H Q I q => h.run pins s σ H Q I (k σ H Q q)⟩
theorem PT.imp {X : Cx} {e : Expr} {t t' : TT} (h : PT X e t) (k : ∀ σ H K, t' σ H K → t σ H K) : PT X e t' := ⟨fun pins s σ H Q I q => h.run pins s σ H Q I (k σ H Q q)⟩
theorem PA.imp {X : Cx} {e : List Expr} {t t' : TA} (h : PA X e t) (k : ∀ σ H K, t' σ H K → t σ H K) : PA X e t' := ⟨fun pos pins s σ H Q I q => h.run pos pins s σ H Q I (k σ H Q q)⟩
theorem PS.imp {X : Cx} {e : Stmt} {t t' : TS} (h : PS X e t) (k : ∀ D σ H, t' D σ H → t D σ H) : PS X e t' := ⟨fun pins s σ H D I q => h.run pins s σ H D I (k D σ H q)⟩
theorem PSs.imp {X : Cx} {e : List Stmt} {t t' : TS} (h : PSs X e t) (k : ∀ D σ H, t' D σ H → t D σ H) : PSs X e t' := ⟨fun pins s σ H D I q => h.run pins s σ H D I (k D σ H q)⟩

section
variable {z : Cz} {W : WX} {r : Fs}
theorem Cz.Rel.ofO {F H : Hp} {env : Env} {σ : St} {O : List Addr} (h : z.Rel F H env σ O) : ∀ a ∈ O, ∃ vs, H a = some (.lst vs) := fun a ha => (RSs.lst h.ss a ha).1
/-- what was told of a value holds behind a step that is not its own -/
theorem RQ.stay {F H F' H' : Hp} {O O' : List Addr} {σ : St} (s : Step F H O F' H' O') (hO : ∀ a ∈ O, ∃ vs, H a = some (.lst vs)) {q : Q} {v : V} {t : List Addr} (h : RQ z F H σ q v t) (n : ∀ a ∈ t, a ∉ O) : RQ z F' H' σ q v t := by
  cases q with
  | ref i => exact h
  | mv m =>
    cases m with
    | val d => exact RM.stay (xa := z.xa) (xd := z.xd) (m := .val d) s hO h n
    | own io xs =>
      cases io with
      | false => exact RM.stay (xa := z.xa) (xd := z.xd) (m := .own false xs) s hO h n
      | true => exact h
    | deal io b n' =>
      cases io with
      | false => exact RM.stay (xa := z.xa) (xd := z.xd) (m := .deal false b n') s hO h n
      | true => exact h
    | ex c d => exact h
theorem RQ.lst {F H : Hp} {σ : St} {q : Q} {v : V} {t : List Addr} (h : RQ z F H σ q v t) : ∀ a ∈ t, (∃ vs, H a = some (.lst vs)) ∧ F a = none := by
  cases q with
  | ref i => intro a ha; rw [h.1] at ha; cases ha
  | mv m =>
    cases m with
    | val d => exact RM.lst (xa := z.xa) (xd := z.xd) (m := .val d) h
    | own io xs =>
      cases io with
      | false => exact RM.lst (xa := z.xa) (xd := z.xd) (m := .own false xs) h
      | true => exact h.elim
    | deal io b n' =>
      cases io with
      | false => exact RM.lst (xa := z.xa) (xd := z.xd) (m := .deal false b n') h
      | true => exact h.elim
    | ex c d => exact h.elim
theorem cons_in {e : E} {es : Es} {σ : St} {H : Hp} {K : List V → Hp → Prop} (h : trEs z W r (.cons e es) σ H K) : trE z W r e σ H fun v H1 => trEs z W r es σ H1 fun vs H2 => K (v :: vs) H2 := by
  obtain ⟨F, O, env, rel, w⟩ := h
  rw [denEs] at w
  refine ⟨F, O, env, rel, wX.bind w fun q env1 F1 H1 O1 _ s1 r1 w1 => ?_⟩
  intro v t1 hq f1
  refine ⟨F1, O1, env1, r1, wX.bind w1 fun qs env2 F2 H2 O2 _ s2 r2 w2 => ?_⟩
  intro vs t2 hqs f2
  have n1 : ∀ a ∈ t1, a ∉ O1 := fun a ha => (f1.2 a ha).1
  refine w2 F2 H2 O2 (Step.refl _ _ _) r2 (v :: vs) (t1 ++ t2) ⟨v, vs, t1, t2, rfl, rfl, hq.stay s2 r1.ofO n1, hqs⟩ ⟨?_, fun a ha => ?_⟩
  · refine List.nodup_append.mpr ⟨f1.1, f2.1, fun a ha b hb e => ?_⟩
    subst e
    obtain ⟨⟨vs, z1⟩, _⟩ := hq.lst a ha
    have z2 := (f2.2 a hb).2
    rw [z1] at z2; cases z2
  · rcases List.mem_append.mp ha with y | y
    · obtain ⟨a1, a2⟩ := f1.2 a y
      refine ⟨fun q => ?_, a2⟩
      obtain ⟨⟨vs, z1⟩, _⟩ := hq.lst a y
      rcases s2.ownd a q with z2 | z2
      · exact a1 z2
      · rw [z1] at z2; cases z2
    · obtain ⟨a1, a2⟩ := f2.2 a y
      exact ⟨a1, s1.back a2⟩
theorem nil_in {σ : St} {H : Hp} {K : List V → Hp → Prop} (h : trEs z W r .nil σ H K) : K [] H := by
  obtain ⟨F, O, env, rel, w⟩ := h
  rw [denEs] at w
  exact w F H O (Step.refl _ _ _) rel [] [] ⟨rfl, rfl⟩ (Fresh.nil _ _)
theorem one_in {e : E} {σ : St} {H : Hp} {K : List V → Hp → Prop} (h : trEs z W r (.cons e .nil) σ H K) : trE z W r e σ H fun v H1 => K [v] H1 := by
  obtain ⟨F, O, env, rel, w⟩ := cons_in h
  refine ⟨F, O, env, rel, ?_⟩
  cases q : denE r e env with
  | stuck => rw [q] at w; exact w
  | exc c d e2 => rw [q] at w; exact w
  | ok p =>
    obtain ⟨x, env'⟩ := p
    rw [q] at w
    intro F' H' O' s' r' v t h1 h2
    exact nil_in (w F' H' O' s' r' v t h1 h2)
theorem trE.mono {e : E} {σ : St} {H : Hp} {K K' : VK} (h : trE z W r e σ H K) (k : ∀ v H', K v H' → K' v H') : trE z W r e σ H K' := by
  obtain ⟨F, O, env, rel, w⟩ := h
  refine ⟨F, O, env, rel, ?_⟩
  cases q : denE r e env with
  | stuck => rw [q] at w; exact w
  | exc c d e2 => rw [q] at w; exact w
  | ok p =>
    obtain ⟨x, env'⟩ := p
    rw [q] at w
    intro F' H' O' s' r' v t h1 h2
    exact k _ _ (w F' H' O' s' r' v t h1 h2)
theorem trEs.mono {e : Es} {σ : St} {H : Hp} {K K' : List V → Hp → Prop} (h : trEs z W r e σ H K) (k : ∀ v H', K v H' → K' v H') : trEs z W r e σ H K' := by
  obtain ⟨F, O, env, rel, w⟩ := h
  refine ⟨F, O, env, rel, ?_⟩
  cases q : denEs r e env with
  | stuck => rw [q] at w; exact w
  | exc c d e2 => rw [q] at w; exact w
  | ok p =>
    obtain ⟨x, env'⟩ := p
    rw [q] at w
    intro F' H' O' s' r' v t h1 h2
    exact k _ _ (w F' H' O' s' r' v t h1 h2)
theorem two_in {a b : E} {σ : St} {H : Hp} {K : List V → Hp → Prop} (h : trEs z W r (.cons a (.cons b .nil)) σ H K) :
    trE z W r a σ H fun x H1 => trE z W r b σ H1 fun y H2 => K [x, y] H2 := trE.mono (cons_in h) fun _ _ h1 => one_in h1
theorem three_in {a b c : E} {σ : St} {H : Hp} {K : List V → Hp → Prop} (h : trEs z W r (.cons a (.cons b (.cons c .nil))) σ H K) :
    trE z W r a σ H fun x H1 => trE z W r b σ H1 fun y H2 => trE z W r c σ H2 fun u H3 => K [x, y, u] H3 := trE.mono (cons_in h) fun _ _ h1 => two_in h1

/-! ### arguments -/
theorem ja_nil {X : Cx} : PA X [] (trEs z W r .nil) := PA.imp pa_nil fun _ _ _ h => nil_in h
theorem ja_cons {X : Cx} {e : Expr} {es : List Expr} {me : E} {mes : Es} (ha : PE X e (trE z W r me)) (hr : PA X es (trEs z W r mes)) (hs : starEach (e :: es) X.env = (false, eval e X.env) :: starEach es X.env := by rfl) :
    PA X (e :: es) (trEs z W r (.cons me mes)) := PA.imp (pa_cons ha hr hs) fun _ _ _ h => cons_in h

/-! ### what an operation reads and gives -/
/-- the root as it stands in H, what lies below it in F -/
def Rd1 (F H : Hp) : D → V → Prop
  | .lst ds, v => ∃ a vs, v = .ref a ∧ H a = some (.lst vs) ∧ Reps F ds vs
  | d, v => Rep F d v
theorem Rep.rd {F H : Hp} (l : Le F H) : ∀ {d : D} {v : V}, Rep F d v → Rd1 F H d v
  | .non, _, h => h
  | .bl _, _, h => h
  | .int _, _, h => h
  | .str _, _, h => h
  | .ins _ _, _, h => h
  | .tup _, _, h => h
  | .lst _, _, h => by
    simp only [Rep] at h
    obtain ⟨a, vs, e, q, t⟩ := h
    exact ⟨a, vs, e, l _ _ q, t⟩
theorem Rd1.tup {F H : Hp} {ds : List D} {v : V} (h : Rd1 F H (.tup ds) v) : ∃ a vs, v = .ref a ∧ F a = some (.tup vs) ∧ Reps F ds vs := by
  have h' : Rep F (.tup ds) v := h
  simpa only [Rep] using h'
def Rds (F H : Hp) : List D → List V → Prop
  | [], vs => vs = []
  | d :: ds, vs => ∃ v r, vs = v :: r ∧ Rd1 F H d v ∧ Rds F H ds r
/-- what an operation's result is handed on as -/
def Fin (F H : Hp) (x : Z) (K : VK) : Prop := match x with
  | .val d => ∀ v F' H', Le F F' → Le H H' → Le F' H' → (∀ a o, F' a = some o → F a = some o ∨ H a = none) → Rep F' d v → K v H'
  | .new xs => ∀ a vs, H a = none → Reps F xs vs → K (.ref a) (upd H a (.lst vs))

theorem le_upd {H : Hp} {a : Addr} (h : H a = none) (o : HO) : Le H (upd H a o) := fun b u q => by
  rw [upd_ne (ne_of_none q h)]; exact q
theorem le_upd2 {F H : Hp} {a : Addr} (l : Le F H) (o : HO) : Le (upd F a o) (upd H a o) := fun b u q => by
  by_cases e : b = a
  · subst e; rw [upd_same] at q ⊢; exact q
  · rw [upd_ne e] at q ⊢; exact l _ _ q
/-- a value that asks for nothing new -/
theorem Fin.leaf {F H : Hp} {d : D} {K : VK} {v : V} (l : Le F H) (h : Fin F H (.val d) K) (q : Rep F d v) : K v H :=
  h v F H (Le.refl F) (Le.refl H) l (fun _ _ h => .inl h) q
/-- a new tuple -/
theorem Fin.tup {F H : Hp} {ds : List D} {K : VK} {vs : List V} (l : Le F H) (h : Fin F H (.val (.tup ds)) K) (q : Reps F ds vs) : ∀ p, H p = none → K (.ref p) (upd H p (.tup vs)) := fun p hp => by
  have fp : F p = none := by
    cases e : F p with
    | none => rfl
    | some o => rw [l _ _ e] at hp; cases hp
  refine h (.ref p) (upd F p (.tup vs)) (upd H p (.tup vs)) (le_upd fp _) (le_upd hp _) (le_upd2 l _) (fun a o e => ?_) ?_
  · by_cases ha : a = p
    · subst ha; exact .inr hp
    · rw [upd_ne ha] at e; exact .inl e
  · simp only [Rep]
    exact ⟨p, vs, rfl, upd_same, q.mono (le_upd fp _)⟩

theorem gets_rd {F H : Hp} {env : Env} {σ : St} {O : List Addr} (rel : z.Rel F H env σ O) : ∀ {qs : List Q} {ds : List D} {vs : List V} {t : List Addr}, gets env qs = some ds → RQs z F H σ qs vs t → Rds F H ds vs
  | [], ds, vs, t, h, q => by
    simp [gets] at h
    rw [h]
    exact q.1
  | q :: qs, ds, vs, t, h, hq => by
    obtain ⟨v, r', x, y, e1, e2, g1, g2⟩ := hq
    unfold gets at h
    cases h1 : q.get env with
    | none => rw [h1] at h; simp at h
    | some d =>
      cases h2 : gets env qs with
      | none => rw [h1, h2] at h; simp at h
      | some ds' =>
        rw [h1, h2] at h
        simp at h
        subst h e1
        refine ⟨v, r', rfl, ?_, gets_rd rel h2 g2⟩
        cases q with
        | ref i =>
          simp only [Q.get] at h1
          cases h3 : slot i env with
          | none => rw [h3] at h1; cases h1
          | some m =>
            rw [h3] at h1
            cases m with
            | own io xs =>
              cases h1
              obtain ⟨o, O1, as, O2, k1, k2, k3, _⟩ := RSs.focus rel.ss (slot_some h3)
              obtain ⟨w, k4, a, vs', k5, _, k6, k7, k8⟩ := k3
              have e3 := g1.2
              rw [k1, k4] at e3
              have e4 : w = v := Option.some.inj (Option.some.inj e3)
              subst e4
              exact ⟨a, vs', k5, k6, k8⟩
            | val d => cases h1
            | deal io b n => cases h1
            | ex c d => cases h1
        | mv m =>
          cases m with
          | val d' =>
            cases h1
            exact g1.2.rd rel.le
          | own io xs =>
            cases io with
            | true => exact g1.elim
            | false =>
              cases h1
              obtain ⟨a, vs', k1, _, k2, k3, k4⟩ := g1
              exact ⟨a, vs', k1, k2, k4⟩
          | deal io b n => simp [Q.get] at h1
          | ex c d => simp [Q.get] at h1

/-- more objects beside -/
theorem Cz.Rel.ext {F H F' H' : Hp} {env : Env} {σ : St} {O : List Addr} (rel : z.Rel F H env σ O) (l1 : Le F F') (l2 : Le H H') (l3 : Le F' H') (k : ∀ a o, F' a = some o → F a = some o ∨ H a = none) :
    Step F H O F' H' O ∧ z.Rel F' H' env σ O := by
  have s : Step F H O F' H' O := ⟨l1, fun a o h _ => l2 a o h, fun a o h => (k a o h).imp id .inl, fun a h => .inl h, fun a o h => ⟨o, l2 a o h⟩⟩
  refine ⟨s, l3, RSs.map rel.ss fun m v bs h hb => ?_, rel.nd⟩
  -- what is owned is not in F'
  have nf : ∀ a ∈ bs, F' a = none := fun a ha => by
    obtain ⟨⟨vs, e1⟩, e2⟩ := RM.lst h a ha
    cases q : F' a with
    | none => rfl
    | some o =>
      rcases k a o q with y | y
      · rw [e2] at y; cases y
      · rw [e1] at y; cases y
  cases m with
  | val d => exact ⟨h.1, h.2.mono l1⟩
  | own io xs =>
    obtain ⟨a, vs, e1, e2, e3, e4, e5⟩ := h
    subst e2
    exact ⟨a, vs, e1, rfl, l2 _ _ e3, nf a List.mem_cons_self, e5.mono l1⟩
  | deal io b n =>
    obtain ⟨a, c, e1, e2, e3, e4, e5, e6⟩ := h
    subst e2
    exact ⟨a, c, e1, rfl, l2 _ _ e3, l2 _ _ e4, nf a List.mem_cons_self, nf c (List.mem_cons_of_mem _ List.mem_cons_self), e6.2⟩
  | ex c d =>
    obtain ⟨e1, e2, w, e3, e4⟩ := h
    exact ⟨e1, e2, w, l2 _ _ e3, e4.mono l1⟩
theorem not_in {F H : Hp} {a : Addr} (l : Le F H) (h : H a = none) : F a = none := by
  cases e : F a with
  | none => rfl
  | some o => rw [l _ _ e] at h; cases h

theorem op_in {o : Op} {es : Es} {σ : St} {H : Hp} {K : VK} (h : trE z W r (.op o es) σ H K) :
    trEs z W r es σ H fun vs H2 => ∃ F ds x, Le F H2 ∧ evalOp o ds = some x ∧ Rds F H2 ds vs ∧ Fin F H2 x K := by
  obtain ⟨F, O, env, rel, w⟩ := h
  rw [denE_op] at w
  refine ⟨F, O, env, rel, wX.bind w fun qs env1 F1 H1 O1 _ s1 r1 w1 => ?_⟩
  intro vs t hq ft
  dsimp only at w1
  cases g : gets env1 qs with
  | none => rw [g] at w1; exact w1.elim
  | some ds =>
    rw [g] at w1
    dsimp only at w1
    cases ev : evalOp o ds with
    | none => rw [ev] at w1; exact w1.elim
    | some x =>
      rw [ev] at w1
      refine ⟨F1, ds, x, r1.le, ev, gets_rd r1 g hq, ?_⟩
      cases x with
      | val d =>
        intro v F' H' l1 l2 l3 k q
        obtain ⟨s2, r2⟩ := Cz.Rel.ext r1 l1 l2 l3 k
        exact w1 F' H' O1 s2 r2 v [] ⟨rfl, q⟩ (Fresh.nil _ _)
      | new xs =>
        intro a vs' ha q
        have fa := not_in r1.le ha
        obtain ⟨s2, r2⟩ := Cz.Rel.ext r1 (Le.refl F1) (le_upd ha (.lst vs')) (r1.le.trans (le_upd ha _)) (fun _ _ h => .inl h)
        refine w1 F1 _ O1 s2 r2 (.ref a) [a] ⟨a, vs', rfl, rfl, upd_same, fa, q⟩ ⟨by simp, fun b hb => ?_⟩
        cases List.mem_singleton.mp hb
        refine ⟨fun hO => ?_, s1.back ha⟩
        obtain ⟨vs2, e⟩ := r1.ofO a hO
        rw [ha] at e; cases e
end
end Rx

/-! RxOps -/
/-! RxOps: each operation of the small language, by the layer's rule for it. -/
set_option linter.all false
set_option Elab.async false
set_option maxRecDepth 100000
set_option maxHeartbeats 4000000
namespace Rx
open PySem L2

theorem maxLen_eq : maxLen = sizeLine := by rw [sizeLine_eq]; rfl
/-- an operation of two things by a rule of the layer -/
def Sp2 (o : Op) (r2 : R2) : Prop := ∀ (F H : Hp) (d1 d2 : D) (x y : V) (w : Z) (K : VK), Le F H → evalOp o [d1, d2] = some w → Rd1 F H d1 x → Rd1 F H d2 y → Fin F H w K → r2 x y H K

theorem rInt {F H : Hp} {i : Int} {x : V} (h : Rd1 F H (.int i) x) : x = .int i := by
  have h' : Rep F (.int i) x := h
  simpa only [Rep] using h'
theorem rBl {F H : Hp} {i : Bool} {x : V} (h : Rd1 F H (.bl i) x) : x = .bl i := by
  have h' : Rep F (.bl i) x := h
  simpa only [Rep] using h'
theorem rStr {F H : Hp} {i : Str} {x : V} (h : Rd1 F H (.str i) x) : x = .str i := by
  have h' : Rep F (.str i) x := h
  simpa only [Rep] using h'
theorem rNon {F H : Hp} {x : V} (h : Rd1 F H .non x) : x = .non := by
  have h' : Rep F .non x := h
  simpa only [Rep] using h'
theorem pInt {F : Hp} {i : Int} : Rep F (.int i) (.int i) := by simp only [Rep]
theorem pBl {F : Hp} {i : Bool} : Rep F (.bl i) (.bl i) := by simp only [Rep]

def rAddAll (K : PySem.W.Frag) : R2 := fun x y H Q => (∃ i j, x = .int i ∧ y = .int j ∧ Q (.int (i + j)) H) ∨ rCat x y H Q ∨ rCatA K x y H Q
theorem or_add {X : Cx} : OpR X (binaryOp .Add) (rAddAll X.K) := OpR.or op_add (OpR.or op_cat op_catA)
theorem sp_add {K : PySem.W.Frag} : Sp2 .add (rAddAll K) := by
  intro F H d1 d2 x y w Kk l e h1 h2 f
  cases d1 with
  | int i =>
    cases d2 <;> simp [evalOp] at e
    subst e
    rw [rInt h1, rInt h2]
    exact .inl ⟨_, _, rfl, rfl, f.leaf l pInt⟩
  | lst xs =>
    cases d2 <;> simp [evalOp] at e
    obtain ⟨hz, e⟩ := e
    subst e
    obtain ⟨a, vs, rfl, ha, ra⟩ := h1
    obtain ⟨b, ws, rfl, hb, rb⟩ := h2
    refine .inr (.inl ⟨a, b, vs, ws, rfl, rfl, ha, hb, ?_, fun p hp => f p _ hp (ra.append rb)⟩)
    rw [ra.len, rb.len, ← maxLen_eq]; exact hz
  | tup xs =>
    cases d2 <;> simp [evalOp] at e
    obtain ⟨hz, e⟩ := e
    subst e
    obtain ⟨a, vs, rfl, ha, ra⟩ := h1.tup
    obtain ⟨b, ws, rfl, hb, rb⟩ := h2.tup
    refine .inr (.inr ⟨a, b, vs, ws, rfl, rfl, SqT.of (l _ _ ha), SqT.of (l _ _ hb), ?_, fun e => ?_, fun _ e => ?_, fun _ _ => f.tup l (ra.append rb)⟩)
    · rw [ra.len, rb.len, ← maxLen_eq]; exact hz
    · subst e
      have e2 : xs = [] := List.length_eq_zero_iff.mp (by rw [← ra.len]; rfl)
      subst e2
      refine f.leaf l ?_
      simp only [List.nil_append, Rep]
      exact ⟨b, ws, rfl, hb, rb⟩
    · subst e
      rename_i ys _
      have e2 : ys = [] := List.length_eq_zero_iff.mp (by rw [← rb.len]; rfl)
      subst e2
      refine f.leaf l ?_
      simp only [List.append_nil, Rep]
      exact ⟨a, vs, rfl, ha, ra⟩
  | non => simp [evalOp] at e
  | bl b => simp [evalOp] at e
  | str x => simp [evalOp] at e
  | ins c fs => simp [evalOp] at e

def rSubI : R2 := rI0 fun i j => .int (i - j)
theorem sp_sub : Sp2 .sub rSubI := by
  intro F H d1 d2 x y w Kk l e h1 h2 f
  cases d1 <;> cases d2 <;> simp [evalOp] at e
  subst e
  rw [rInt h1, rInt h2]
  exact ⟨_, _, rfl, rfl, f.leaf l pInt⟩

def rMulAll (K : PySem.W.Frag) : R2 := fun x y H Q => rI CMulW (fun i j => .int (i * j)) x y H Q ∨ rRep x y H Q ∨ rRepT K x y H Q
theorem or_mul {X : Cx} : OpR X (binaryOp .Mult) (rMulAll X.K) := OpR.or op_mulW (OpR.or op_rep op_repT)
theorem sp_mul {K : PySem.W.Frag} : Sp2 .mul (rMulAll K) := by
  intro F H d1 d2 x y w Kk l e h1 h2 f
  cases d1 with
  | int i =>
    cases d2 <;> simp [evalOp] at e
    obtain ⟨hz, e⟩ := e
    subst e
    rw [rInt h1, rInt h2]
    exact .inl ⟨_, _, rfl, rfl, hz, f.leaf l pInt⟩
  | lst xs =>
    cases d2 <;> simp [evalOp] at e
    obtain ⟨⟨h3, h4, h5⟩, e⟩ := e
    subst e
    obtain ⟨a, vs, rfl, ha, ra⟩ := h1
    rw [rInt h2]
    refine .inr (.inl ⟨a, _, vs, rfl, rfl, ha, by omega, by omega, ?_, fun p hp => f p _ hp (ra.rep _)⟩)
    rw [ra.len, ← maxLen_eq]; exact h5
  | tup xs =>
    cases d2 <;> simp [evalOp] at e
    obtain ⟨⟨h3, h4, h5, h6⟩, e⟩ := e
    subst e
    obtain ⟨a, vs, rfl, ha, ra⟩ := h1.tup
    rw [rInt h2]
    refine .inr (.inr ⟨a, _, vs, rfl, rfl, SqT.of (l _ _ ha), fun q => h3 ?_, h4, h5, by rw [ra.len]; exact h6, fun p hp => f.tup l (ra.rep _) p hp⟩)
    exact List.length_eq_zero_iff.mp (by rw [← ra.len, q]; rfl)
  | non => simp [evalOp] at e
  | bl b => simp [evalOp] at e
  | str x => simp [evalOp] at e
  | ins c fs => simp [evalOp] at e

def rDivI : R2 := rI CDivW fun i j => .int (i / j)
theorem sp_fdiv : Sp2 .fdiv rDivI := by
  intro F H d1 d2 x y w Kk l e h1 h2 f
  cases d1 <;> cases d2 <;> simp [evalOp] at e
  obtain ⟨hz, e⟩ := e
  subst e
  rw [rInt h1, rInt h2]
  exact ⟨_, _, rfl, rfl, hz, f.leaf l pInt⟩
def rModI : R2 := rI (fun _ j => 0 < j) fun i j => .int (i % j)
theorem sp_mod : Sp2 .mod rModI := by
  intro F H d1 d2 x y w Kk l e h1 h2 f
  cases d1 <;> cases d2 <;> simp [evalOp] at e
  obtain ⟨hz, e⟩ := e
  subst e
  rw [rInt h1, rInt h2]
  exact ⟨_, _, rfl, rfl, hz, f.leaf l pInt⟩
def rPowI : R2 := rI CPow fun i j => .int (i ^ j.toNat)
theorem sp_pow : Sp2 .pow rPowI := by
  intro F H d1 d2 x y w Kk l e h1 h2 f
  cases d1 <;> cases d2 <;> simp [evalOp] at e
  obtain ⟨⟨h3, h4, h5⟩, e⟩ := e
  subst e
  rw [rInt h1, rInt h2]
  exact ⟨_, _, rfl, rfl, ⟨h3, by omega, by omega⟩, f.leaf l pInt⟩

theorem sp_cmp {o : Op} {p : Int → Int → Bool} (h : ∀ d1 d2 w, evalOp o [d1, d2] = some w → ∃ i j, d1 = .int i ∧ d2 = .int j ∧ w = .val (.bl (p i j))) : Sp2 o (rI0 fun i j => .bl (p i j)) := by
  intro F H d1 d2 x y w Kk l e h1 h2 f
  obtain ⟨i, j, rfl, rfl, rfl⟩ := h _ _ _ e
  rw [rInt h1, rInt h2]
  exact ⟨_, _, rfl, rfl, f.leaf l pBl⟩
theorem sp_lt : Sp2 .lt (rI0 fun i j => .bl (decide (i < j))) := sp_cmp fun d1 d2 w e => by
  cases d1 <;> cases d2 <;> simp [evalOp] at e
  exact ⟨_, _, rfl, rfl, e.symm⟩
theorem sp_le : Sp2 .le (rI0 fun i j => .bl (decide (i ≤ j))) := sp_cmp fun d1 d2 w e => by
  cases d1 <;> cases d2 <;> simp [evalOp] at e
  exact ⟨_, _, rfl, rfl, e.symm⟩
theorem sp_gt : Sp2 .gt (rI0 fun i j => .bl (decide (j < i))) := sp_cmp fun d1 d2 w e => by
  cases d1 <;> cases d2 <;> simp [evalOp] at e
  exact ⟨_, _, rfl, rfl, e.symm⟩
theorem sp_ge : Sp2 .ge (rI0 fun i j => .bl (decide (j ≤ i))) := sp_cmp fun d1 d2 w e => by
  cases d1 <;> cases d2 <;> simp [evalOp] at e
  exact ⟨_, _, rfl, rfl, e.symm⟩

/-! ### == -/
mutual
def D.py : D → PyData
  | .non => .none
  | .bl b => .bool b
  | .int i => .int i
  | .str x => .str x
  | .tup xs => .tuple (D.pys xs)
  | .lst xs => .list (D.pys xs)
  | .ins _ _ => .dict []
def D.pys : List D → List PyData
  | [] => []
  | d :: ds => D.py d :: D.pys ds
end
mutual
theorem eqv_py : ∀ d e : D, d.flat 60 = d.flat 60 → PyData.eqv d.py e.py = d.eqv e
  | .non, e, _ => by cases e <;> simp [D.py, D.eqv, PyData.eqv]
  | .bl b, e, _ => by cases e <;> simp [D.py, D.eqv, PyData.eqv]
  | .int b, e, _ => by cases e <;> simp [D.py, D.eqv, PyData.eqv]
  | .str b, e, _ => by cases e <;> simp [D.py, D.eqv, PyData.eqv]
  | .tup xs, e, _ => by
    cases e <;> simp [D.py, D.eqv, PyData.eqv]
    exact eqvs_py xs _
  | .lst xs, e, _ => by
    cases e <;> simp [D.py, D.eqv, PyData.eqv]
    exact eqvs_py xs _
  | .ins c fs, e, _ => by cases e <;> simp [D.py, D.eqv, PyData.eqv]
theorem eqvs_py : ∀ ds es : List D, PyData.eqvAll (D.pys ds) (D.pys es) = D.eqvs ds es
  | [], es => by cases es <;> simp [D.pys, D.eqvs, PyData.eqvAll]
  | d :: ds, es => by
    cases es with
    | nil => simp [D.pys, D.eqvs, PyData.eqvAll]
    | cons e es => simp [D.pys, D.eqvs, PyData.eqvAll, eqv_py d e rfl, eqvs_py ds es]
end
mutual
theorem flat_shape : ∀ (n : Nat) (d : D), d.flat n = true → d.py.canLay0 = true ∧ d.py.depth ≤ n + 1
  | n, .non, _ => by simp [D.py, PyData.canLay0, PyData.depth]
  | n, .bl b, _ => by simp [D.py, PyData.canLay0, PyData.depth]
  | n, .int b, _ => by simp [D.py, PyData.canLay0, PyData.depth]
  | n, .str x, h => by
    refine ⟨?_, by simp [D.py, PyData.depth]⟩
    simp [D.flat, strSmall] at h
    simp only [D.py, PyData.canLay0, PyData.strOk]
    exact Array.all_eq_true.mpr fun i hi => decide_eq_true (h.2 i hi)
  | 0, .tup xs, h => by simp [D.flat] at h
  | 0, .lst xs, h => by simp [D.flat] at h
  | n + 1, .tup xs, h => by
    simp [D.flat] at h
    obtain ⟨h1, h2⟩ := flats_shape n xs h
    simp [D.py, PyData.canLay0, PyData.depth]
    exact ⟨h1, by omega⟩
  | n + 1, .lst xs, h => by
    simp [D.flat] at h
    obtain ⟨h1, h2⟩ := flats_shape n xs h
    simp [D.py, PyData.canLay0, PyData.depth]
    exact ⟨h1, by omega⟩
  | 0, .ins c fs, h => by simp [D.flat] at h
  | n + 1, .ins c fs, h => by simp [D.flat] at h
theorem flats_shape : ∀ (n : Nat) (ds : List D), D.flats n ds = true → PyData.canLayAll0 (D.pys ds) = true ∧ PyData.depthAll (D.pys ds) ≤ n + 1
  | n, [], _ => by simp [D.pys, PyData.canLayAll0, PyData.depthAll]
  | n, d :: ds, h => by
    simp [D.flats] at h
    obtain ⟨h1, h2⟩ := flat_shape n d h.1
    obtain ⟨h3, h4⟩ := flats_shape n ds h.2
    simp [D.pys, PyData.canLayAll0, PyData.depthAll, h1, h3]
    omega
end
theorem flat_ok {d : D} (h : d.flat 60 = true) : SeqAt.shaped d.py = true := by
  obtain ⟨h1, h2⟩ := flat_shape 60 d h
  unfold SeqAt.shaped
  rw [h1]
  simp
  omega
mutual
theorem Rep.dp {K : PySem.W.Frag} {F H : Hp} (l : Le F H) : ∀ {d : D} {v : V}, Rep F d v → Dp K H v d.py
  | .non, v, h => by simp only [Rep] at h; subst h; simp only [D.py]; exact .non
  | .bl b, v, h => by simp only [Rep] at h; subst h; simp only [D.py]; exact .bl b
  | .int b, v, h => by simp only [Rep] at h; subst h; simp only [D.py]; exact .int b
  | .str b, v, h => by simp only [Rep] at h; subst h; simp only [D.py]; exact .str b
  | .tup ds, v, h => by
    simp only [Rep] at h
    obtain ⟨a, vs, e, q, t⟩ := h
    subst e
    simp only [D.py]
    exact .tup (SqT.of (l _ _ q)) (Reps.dp l t)
  | .lst ds, v, h => by
    simp only [Rep] at h
    obtain ⟨a, vs, e, q, t⟩ := h
    subst e
    simp only [D.py]
    exact .lst (SqL.of (l _ _ q)) (Reps.dp l t)
  | .ins _ _, v, h => by simp [Rep] at h
theorem Reps.dp {K : PySem.W.Frag} {F H : Hp} (l : Le F H) : ∀ {ds : List D} {vs : List V}, Reps F ds vs → DpAll K H vs (D.pys ds)
  | [], vs, h => by rw [h.nil_inv]; simp only [D.pys]; exact .nil
  | d :: ds, vs, h => by
    obtain ⟨v, r, e, q, t⟩ := h.cons_inv
    subst e
    simp only [D.pys]
    exact .cons (Rep.dp l q) (Reps.dp l t)
end
theorem Rd1.dp {K : PySem.W.Frag} {F H : Hp} (l : Le F H) {d : D} {v : V} (h : Rd1 F H d v) : Dp K H v d.py := by
  cases d with
  | lst ds =>
    obtain ⟨a, vs, e, q, t⟩ := h
    subst e
    simp only [D.py]
    exact .lst (SqL.of q) (Reps.dp l t)
  | non => exact Rep.dp l (d := .non) h
  | bl b => exact Rep.dp l (d := .bl b) h
  | int b => exact Rep.dp l (d := .int b) h
  | str b => exact Rep.dp l (d := .str b) h
  | tup b => exact Rep.dp l (d := .tup b) h
  | ins a b => exact Rep.dp l (d := .ins a b) h
theorem sp_eq {K : PySem.W.Frag} : Sp2 .eq (rEqD K) := by
  intro F H d1 d2 x y w Kk l e h1 h2 f
  simp [evalOp] at e
  obtain ⟨⟨g1, g2⟩, e⟩ := e
  subst e
  refine ⟨_, _, h1.dp l, h2.dp l, flat_ok g1, flat_ok g2, ?_⟩
  rw [eqv_py _ _ rfl]
  exact f.leaf l pBl
theorem sp_ne {K : PySem.W.Frag} : Sp2 .ne (rNeD K) := by
  intro F H d1 d2 x y w Kk l e h1 h2 f
  simp [evalOp] at e
  obtain ⟨⟨g1, g2⟩, e⟩ := e
  subst e
  refine ⟨_, _, h1.dp l, h2.dp l, flat_ok g1, flat_ok g2, ?_⟩
  rw [eqv_py _ _ rfl]
  exact f.leaf l pBl

/-! ### is -/
def rIsN1 : R2 := fun x y H Q => y = .non ∧ Q (.bl (decide (x = .non))) H
theorem non_iff {F H : Hp} {d : D} {x : V} (h : Rd1 F H d x) : d.isNon = decide (x = .non) := by
  cases d with
  | non => rw [rNon h]; rfl
  | bl b => rw [rBl h]; rfl
  | int b => rw [rInt h]; rfl
  | str b => rw [rStr h]; rfl
  | tup b => obtain ⟨a, vs, rfl, _⟩ := h.tup; rfl
  | lst b => obtain ⟨a, vs, rfl, _⟩ := h; rfl
  | ins a b => exact absurd (show Rep F (.ins a b) x from h) (by simp [Rep])

/-! ### places and parts -/
theorem place_eq (n : Nat) (i : Int) : place n i = ixN n i := rfl
theorem ix_some {xs : List D} {i : Int} {w : Z} (e : ((place xs.length i).bind fun k => xs[k]?).map Z.val = some w) : ∃ k d, place xs.length i = some k ∧ xs[k]? = some d ∧ w = .val d := by
  obtain ⟨d, e1, e2⟩ := Option.map_eq_some_iff.mp e
  obtain ⟨k, h1, h2⟩ := Option.bind_eq_some_iff.mp e1
  exact ⟨k, d, h1, h2, e2.symm⟩
theorem sp_ix {K : PySem.W.Frag} : Sp2 .ix (fun x y H Q => rIxL K x y H Q ∨ rIxT K x y H Q) := by
  intro F H d1 d2 x y w Kk l e h1 h2 f
  cases d1 with
  | tup xs =>
    cases d2 with
    | int i =>
      obtain ⟨k, d, hk, hd, e⟩ := ix_some (xs := xs) (i := i) e
      subst e
      obtain ⟨a, vs, rfl, ha, ra⟩ := h1.tup
      rw [rInt h2]
      obtain ⟨v, hv, rv⟩ := ra.get hd
      refine .inr ⟨a, vs, _, v, rfl, rfl, SqT.of (l _ _ ha), ?_, f.leaf l rv⟩
      unfold atI
      rw [ra.len, ← place_eq, hk]
      exact hv
    | _ => simp [evalOp] at e
  | lst xs =>
    cases d2 with
    | int i =>
      obtain ⟨k, d, hk, hd, e⟩ := ix_some (xs := xs) (i := i) e
      subst e
      obtain ⟨a, vs, rfl, ha, ra⟩ := h1
      rw [rInt h2]
      obtain ⟨v, hv, rv⟩ := ra.get hd
      refine .inl ⟨a, vs, _, v, rfl, rfl, SqL.of ha, ?_, f.leaf l rv⟩
      unfold atI
      rw [ra.len, ← place_eq, hk]
      exact hv
    | _ => simp [evalOp] at e
  | _ => simp [evalOp] at e
theorem bound_eq (n d : Nat) (o : Option Int) : bound n d o = HT.sIx n d o := by cases o <;> rfl
theorem cut_reps {F : Hp} {ds : List D} {vs : List V} (h : Reps F ds vs) (lo hi : Option Int) : Reps F (cut ds lo hi) (cutV vs lo hi) := by
  unfold cut cutV
  rw [bound_eq, bound_eq, h.len]
  exact (h.drop _).take _
/-- what a slice of a list or a tuple wants -/
def rSlAll (K : PySem.W.Frag) : V → Option Int → Option Int → Hp → VK → Prop := fun x lo hi H Q => rSlL K x lo hi H Q ∨ rSlA K x lo hi H Q
theorem or_sl {X : Cx} : SlR X (rSlAll X.K) := SlR.or sl_list sl_tupA
theorem cut_whole {xs : List D} {lo hi : Option Int} (h : bound xs.length 0 lo = 0 ∧ bound xs.length xs.length hi = xs.length) : cut xs lo hi = xs := by
  unfold cut
  rw [h.1, h.2]
  simp
theorem sl_lst {K : PySem.W.Frag} {F H : Hp} {xs : List D} {x : V} {lo hi : Option Int} {Kk : VK} (l : Le F H) (h : Rd1 F H (.lst xs) x) (f : Fin F H (.new (cut xs lo hi)) Kk) : rSlAll K x lo hi H Kk := by
  obtain ⟨a, vs, rfl, ha, ra⟩ := h
  exact .inl ⟨a, vs, rfl, SqL.of ha, fun p hp => f p _ hp (cut_reps ra lo hi)⟩
theorem sl_tup1 {K : PySem.W.Frag} {F H : Hp} {xs : List D} {x : V} {lo hi : Option Int} {Kk : VK} (l : Le F H) (h : Rd1 F H (.tup xs) x) (f : Fin F H (.val (.tup (cut xs lo hi))) Kk) : rSlAll K x lo hi H Kk := by
  obtain ⟨a, vs, rfl, ha, ra⟩ := h.tup
  refine .inr ⟨a, vs, rfl, SqT.of (l _ _ ha), fun q => ?_, fun _ => f.tup l (cut_reps ra lo hi)⟩
  refine f.leaf l ?_
  rw [cut_whole (by rw [bound_eq, bound_eq, ← ra.len]; exact q)]
  simp only [Rep]
  exact ⟨a, vs, rfl, ha, ra⟩

/-! ### built-in functions of one thing -/
def Sp1 (o : Op) (r : List V → Hp → VK → Prop) : Prop := ∀ (F H : Hp) (d : D) (x : V) (w : Z) (K : VK), Le F H → evalOp o [d] = some w → Rd1 F H d x → Fin F H w K → r [x] H K
theorem sp_len {K : PySem.W.Frag} : Sp1 .len (fun xs H Q => ∃ p ys, xs = [.ref p] ∧ (SqL K H p ys ∨ SqT K H p ys) ∧ Q (.int ys.length) H) := by
  intro F H d x w Kk l e h f
  cases d <;> simp [evalOp] at e
  · subst e
    obtain ⟨a, vs, rfl, ha, ra⟩ := h.tup
    refine ⟨a, vs, rfl, .inr (SqT.of (l _ _ ha)), ?_⟩
    rw [ra.len]
    exact f.leaf l pInt
  · subst e
    obtain ⟨a, vs, rfl, ha, ra⟩ := h
    refine ⟨a, vs, rfl, .inl (SqL.of ha), ?_⟩
    rw [ra.len]
    exact f.leaf l pInt
theorem sp_abs : Sp1 .abs (fun xs H Q => ∃ i, xs = [.int i] ∧ Q (.int (if i < 0 then -i else i)) H) := by
  intro F H d x w Kk l e h f
  cases d <;> simp [evalOp] at e
  subst e
  rw [rInt h]
  exact ⟨_, rfl, f.leaf l pInt⟩
theorem sp_int : Sp1 .int (fun xs H Q => (∃ i, xs = [.int i] ∧ Q (.int i) H) ∨ ∃ k, xs = [.bl k] ∧ Q (.int (if k then 1 else 0)) H) := by
  intro F H d x w Kk l e h f
  cases d <;> simp [evalOp] at e
  · subst e; rw [rBl h]; exact .inr ⟨_, rfl, f.leaf l pInt⟩
  · subst e; rw [rInt h]; exact .inl ⟨_, rfl, f.leaf l pInt⟩
theorem sp_bool : Sp1 .bool (fun xs H Q => (∃ i, xs = [.int i] ∧ Q (.bl (i != 0)) H) ∨ ∃ k, xs = [.bl k] ∧ Q (.bl k) H) := by
  intro F H d x w Kk l e h f
  cases d <;> simp [evalOp] at e
  · subst e; rw [rBl h]; exact .inr ⟨_, rfl, f.leaf l pBl⟩
  · subst e; rw [rInt h]; exact .inl ⟨_, rfl, f.leaf l pBl⟩
theorem sp_list {K : PySem.W.Frag} : Sp1 .list (fun xs H Q => ∃ p ys, xs = [.ref p] ∧ (SqL K H p ys ∨ SqT K H p ys) ∧ ∀ l, H l = none → Q (.ref l) (upd H l (.lst ys))) := by
  intro F H d x w Kk l e h f
  cases d <;> simp [evalOp] at e
  · subst e
    obtain ⟨a, vs, rfl, ha, ra⟩ := h.tup
    exact ⟨a, vs, rfl, .inr (SqT.of (l _ _ ha)), fun p hp => f p _ hp ra⟩
  · subst e
    obtain ⟨a, vs, rfl, ha, ra⟩ := h
    exact ⟨a, vs, rfl, .inl (SqL.of ha), fun p hp => f p _ hp ra⟩
theorem sp_tuple {K : PySem.W.Frag} : Sp1 .tuple (fun xs H Q => ∃ p ys, xs = [.ref p] ∧ ((SqL K H p ys ∧ ∀ l, H l = none → Q (.ref l) (upd H l (.tup ys))) ∨ (SqT K H p ys ∧ Q (.ref p) H))) := by
  intro F H d x w Kk l e h f
  cases d <;> simp [evalOp] at e
  · subst e
    obtain ⟨a, vs, rfl, ha, ra⟩ := h.tup
    refine ⟨a, vs, rfl, .inr ⟨SqT.of (l _ _ ha), f.leaf l ?_⟩⟩
    simp only [Rep]
    exact ⟨a, vs, rfl, ha, ra⟩
  · subst e
    obtain ⟨a, vs, rfl, ha, ra⟩ := h
    exact ⟨a, vs, rfl, .inl ⟨SqL.of ha, f.tup l ra⟩⟩
theorem sp_sum {K : PySem.W.Frag} : Sp1 .sum (rSum K) := by
  intro F H d x w Kk l e h f
  cases d <;> simp [evalOp] at e
  obtain ⟨ns, hn, e⟩ := e
  subst e
  obtain ⟨a, vs, rfl, ha, ra⟩ := h
  have q := ints?_reps hn ra
  subst q
  exact ⟨a, ns, rfl, SqL.of ha, f.leaf l pInt⟩
theorem sp_all {K : PySem.W.Frag} : Sp1 .all (rAll K) := by
  intro F H d x w Kk l e h f
  cases d <;> simp [evalOp] at e
  obtain ⟨ns, hn, e⟩ := e
  subst e
  obtain ⟨a, vs, rfl, ha, ra⟩ := h
  have q := bools?_reps hn ra
  subst q
  exact ⟨a, ns, rfl, SqL.of ha, f.leaf l pBl⟩
theorem sp_any {K : PySem.W.Frag} : Sp1 .any (rAny K) := by
  intro F H d x w Kk l e h f
  cases d <;> simp [evalOp] at e
  obtain ⟨ns, hn, e⟩ := e
  subst e
  obtain ⟨a, vs, rfl, ha, ra⟩ := h
  have q := bools?_reps hn ra
  subst q
  exact ⟨a, ns, rfl, SqL.of ha, f.leaf l pBl⟩
def Sp1b (o : Op) (r : List V → Hp → VK → Prop) : Prop := ∀ (F H : Hp) (d1 d2 : D) (x y : V) (w : Z) (K : VK), Le F H → evalOp o [d1, d2] = some w → Rd1 F H d1 x → Rd1 F H d2 y → Fin F H w K → r [x, y] H K
theorem sp_max2 : Sp1b .max2 (fun xs H Q => ∃ i j, xs = [.int i, .int j] ∧ Q (.int (if j > i then j else i)) H) := by
  intro F H d1 d2 x y w Kk l e h1 h2 f
  cases d1 <;> cases d2 <;> simp [evalOp] at e
  subst e
  rw [rInt h1, rInt h2]
  exact ⟨_, _, rfl, f.leaf l pInt⟩
theorem sp_min2 : Sp1b .min2 (fun xs H Q => ∃ i j, xs = [.int i, .int j] ∧ Q (.int (if j < i then j else i)) H) := by
  intro F H d1 d2 x y w Kk l e h1 h2 f
  cases d1 <;> cases d2 <;> simp [evalOp] at e
  subst e
  rw [rInt h1, rInt h2]
  exact ⟨_, _, rfl, f.leaf l pInt⟩

/-! ### greatest, least, sorted -/
theorem greatest_mem : ∀ (ns : List Int) (m : Int), greatest m ns = m ∨ greatest m ns ∈ ns
  | [], m => .inl rfl
  | x :: r, m => by
    unfold greatest
    rcases greatest_mem r (if x > m then x else m) with h | h
    · by_cases c : x > m
      · rw [if_pos c] at h ⊢; rw [h]; exact .inr List.mem_cons_self
      · rw [if_neg c] at h ⊢; exact .inl h
    · exact .inr (List.mem_cons_of_mem _ h)
theorem greatest_ge : ∀ (ns : List Int) (m : Int), m ≤ greatest m ns ∧ ∀ y ∈ ns, y ≤ greatest m ns
  | [], m => ⟨Int.le_refl _, fun _ h => nomatch h⟩
  | x :: r, m => by
    unfold greatest
    obtain ⟨h1, h2⟩ := greatest_ge r (if x > m then x else m)
    by_cases c : x > m
    · rw [if_pos c] at h1 h2 ⊢
      refine ⟨by omega, fun y hy => ?_⟩
      rcases List.mem_cons.mp hy with e | e
      · rw [e]; exact h1
      · exact h2 y e
    · rw [if_neg c] at h1 h2 ⊢
      refine ⟨h1, fun y hy => ?_⟩
      rcases List.mem_cons.mp hy with e | e
      · rw [e]; omega
      · exact h2 y e
theorem least_mem : ∀ (ns : List Int) (m : Int), least m ns = m ∨ least m ns ∈ ns
  | [], m => .inl rfl
  | x :: r, m => by
    unfold least
    rcases least_mem r (if x < m then x else m) with h | h
    · by_cases c : x < m
      · rw [if_pos c] at h ⊢; rw [h]; exact .inr List.mem_cons_self
      · rw [if_neg c] at h ⊢; exact .inl h
    · exact .inr (List.mem_cons_of_mem _ h)
theorem least_le : ∀ (ns : List Int) (m : Int), least m ns ≤ m ∧ ∀ y ∈ ns, least m ns ≤ y
  | [], m => ⟨Int.le_refl _, fun _ h => nomatch h⟩
  | x :: r, m => by
    unfold least
    obtain ⟨h1, h2⟩ := least_le r (if x < m then x else m)
    by_cases c : x < m
    · rw [if_pos c] at h1 h2 ⊢
      refine ⟨by omega, fun y hy => ?_⟩
      rcases List.mem_cons.mp hy with e | e
      · rw [e]; exact h1
      · exact h2 y e
    · rw [if_neg c] at h1 h2 ⊢
      refine ⟨h1, fun y hy => ?_⟩
      rcases List.mem_cons.mp hy with e | e
      · rw [e]; omega
      · exact h2 y e
theorem sp_maxl {K : PySem.W.Frag} : Sp1 .maxl (rMax K) := by
  intro F H d x w Kk l e h f
  cases d <;> simp [evalOp] at e
  rename_i ds
  cases hn : ints? ds with
  | none => rw [hn] at e; simp at e
  | some ns =>
    rw [hn] at e
    cases ns with
    | nil => simp at e
    | cons n ns =>
      simp at e
      subst e
      obtain ⟨a, vs, rfl, ha, ra⟩ := h
      have q := ints?_reps hn ra
      subst q
      refine ⟨a, n :: ns, rfl, SqL.of ha, by simp, fun m hm hle => ?_⟩
      have e1 := hle (greatest n ns) (by
        rcases greatest_mem ns n with z | z
        · rw [z]; exact List.mem_cons_self
        · exact List.mem_cons_of_mem _ z)
      have e2 : m ≤ greatest n ns := by
        rcases List.mem_cons.mp hm with z | z
        · rw [z]; exact (greatest_ge ns n).1
        · exact (greatest_ge ns n).2 m z
      rw [show m = greatest n ns by omega]
      exact f.leaf l pInt
theorem sp_minl {K : PySem.W.Frag} : Sp1 .minl (rMin K) := by
  intro F H d x w Kk l e h f
  cases d <;> simp [evalOp] at e
  rename_i ds
  cases hn : ints? ds with
  | none => rw [hn] at e; simp at e
  | some ns =>
    rw [hn] at e
    cases ns with
    | nil => simp at e
    | cons n ns =>
      simp at e
      subst e
      obtain ⟨a, vs, rfl, ha, ra⟩ := h
      have q := ints?_reps hn ra
      subst q
      refine ⟨a, n :: ns, rfl, SqL.of ha, by simp, fun m hm hle => ?_⟩
      have e1 := hle (least n ns) (by
        rcases least_mem ns n with z | z
        · rw [z]; exact List.mem_cons_self
        · exact List.mem_cons_of_mem _ z)
      have e2 : least n ns ≤ m := by
        rcases List.mem_cons.mp hm with z | z
        · rw [z]; exact (least_le ns n).1
        · exact (least_le ns n).2 m z
      rw [show m = least n ns by omega]
      exact f.leaf l pInt
theorem insertS_perm (x : Int) : ∀ ys : List Int, (insertS x ys).Perm (x :: ys)
  | [] => List.Perm.refl _
  | y :: r => by
    unfold insertS
    by_cases c : x ≤ y
    · rw [if_pos c]
    · rw [if_neg c]
      exact ((insertS_perm x r).cons y).trans (List.Perm.swap x y r)
theorem sortI_perm : ∀ xs : List Int, (sortI xs).Perm xs
  | [] => List.Perm.refl _
  | x :: r => (insertS_perm x (sortI r)).trans ((sortI_perm r).cons x)
theorem insertS_sorted (x : Int) : ∀ {ys : List Int}, ys.Pairwise (· ≤ ·) → (insertS x ys).Pairwise (· ≤ ·)
  | [], _ => by simp [insertS]
  | y :: r, h => by
    unfold insertS
    obtain ⟨h1, h2⟩ := List.pairwise_cons.mp h
    by_cases c : x ≤ y
    · rw [if_pos c]
      refine List.pairwise_cons.mpr ⟨fun z hz => ?_, h⟩
      rcases List.mem_cons.mp hz with e | e
      · rw [e]; exact c
      · exact Int.le_trans c (h1 z e)
    · rw [if_neg c]
      refine List.pairwise_cons.mpr ⟨fun z hz => ?_, insertS_sorted x h2⟩
      rcases List.mem_cons.mp ((insertS_perm x r).mem_iff.mp hz) with e | e
      · rw [e]; omega
      · exact h1 z e
theorem sortI_sorted : ∀ xs : List Int, (sortI xs).Pairwise (· ≤ ·)
  | [] => List.Pairwise.nil
  | x :: r => insertS_sorted x (sortI_sorted r)
theorem sorted_one : ∀ {xs ys : List Int}, xs.Perm ys → xs.Pairwise (· ≤ ·) → ys.Pairwise (· ≤ ·) → xs = ys
  | [], ys, p, _, _ => by rw [List.nil_perm.mp p]
  | x :: xs, [], p, _, _ => by simpa using p.length_eq
  | x :: xs, y :: ys, p, h1, h2 => by
    obtain ⟨a1, a2⟩ := List.pairwise_cons.mp h1
    obtain ⟨b1, b2⟩ := List.pairwise_cons.mp h2
    have e : x = y := by
      rcases List.mem_cons.mp (p.mem_iff.mp (List.mem_cons_self (a := x))) with z | z
      · exact z
      · have u := b1 x z
        rcases List.mem_cons.mp (p.mem_iff.mpr (List.mem_cons_self (a := y))) with t | t
        · exact t.symm
        · have v := a1 y t
          omega
    subst e
    rw [sorted_one ((List.perm_cons x).mp p) a2 b2]
theorem sp_sorted {K : PySem.W.Frag} : Sp1 .sorted (rSortedI K) := by
  intro F H d x w Kk l e h f
  cases d <;> simp [evalOp] at e
  obtain ⟨ns, hn, e⟩ := e
  subst e
  obtain ⟨a, vs, rfl, ha, ra⟩ := h
  have q := ints?_reps hn ra
  subst q
  refine ⟨a, ns, rfl, SqL.of ha, fun ns' p hp hs hn' => ?_⟩
  rw [sorted_one (hp.trans (sortI_perm ns).symm) hs (sortI_sorted ns)]
  exact f p _ hn' (Reps.ints _)
end Rx

/-! RxRules -/
/-! RxRules: the judgements of expressions, construct by construct. -/
set_option linter.all false
set_option Elab.async false
set_option maxRecDepth 100000
set_option maxHeartbeats 4000000
namespace Rx
open PySem L2

section
variable {X : Cx} {z : Cz} {W : WX} {r : Fs}

/-- the value that a slot holds -/
theorem slot_val {F H : Hp} {env : Env} {σ : St} {O : List Addr} (rel : z.Rel F H env σ O) {i : Nat} {m : M} (h : slot i env = some m) : ∃ v as, σ[i]? = some (some v) ∧ RM F H z.xa z.xd m v as ∧ ∀ a ∈ as, a ∈ O := by
  obtain ⟨o, O1, as, O2, k1, k2, k3, _⟩ := RSs.focus rel.ss (slot_some h)
  obtain ⟨v, k4, k5⟩ := k3
  subst k4
  exact ⟨v, as, k1, k5, fun a ha => by rw [k2]; simp [ha]⟩

theorem je_var {i : Nat} {x : Str} {pos : Pos} (hN : X.N[i]? = some x := by rfl) (hv : Vis X.env.scope x := by first | exact Or.inl rfl | exact Or.inr (Or.inl rfl) | exact Or.inr (Or.inr rfl))
    (hd : (x == ("__debug__" : Str)) = false := by decide) (hcd : (x == ("__classdict__" : Str)) = false := by decide) : PE X (.Name x pos) (trE z W r (.var i)) := by
  refine PE.imp (pe_var hN hv hd hcd) fun σ H K h => ?_
  obtain ⟨F, O, env, rel, w⟩ := h
  rw [denE_var] at w
  cases e : slot i env with
  | none => rw [e] at w; exact w.elim
  | some m =>
    rw [e] at w
    obtain ⟨v, as, k1, k2, _⟩ := slot_val rel e
    refine ⟨v, k1, ?_⟩
    cases m with
    | val d => exact w F H O (Step.refl _ _ _) rel v [] ⟨rfl, k2.2⟩ (Fresh.nil _ _)
    | own io xs => exact w F H O (Step.refl _ _ _) rel v [] ⟨rfl, k1⟩ (Fresh.nil _ _)
    | deal io b n => exact w F H O (Step.refl _ _ _) rel v [] ⟨rfl, k1⟩ (Fresh.nil _ _)
    | ex c d => exact w.elim

theorem mem_append3 {a : Addr} {x y w : List Addr} (h : a ∈ x ++ w) : a ∈ x ++ (y ++ w) := by
  rcases List.mem_append.mp h with h | h <;> simp [h]
/-- a slot's own list becomes a value -/
theorem froze {F H : Hp} {env : Env} {σ : St} {O : List Addr} (rel : z.Rel F H env σ O) {i : Nat} {xs : List D} (h : slot i env = some (.own false xs)) :
    ∃ v F' O', σ[i]? = some (some v) ∧ Step F H O F' H O' ∧ z.Rel F' H (env.set i (some (.val (.lst xs)))) σ O' ∧ Rep F' (.lst xs) v := by
  obtain ⟨o, O1, as, O2, k1, k2, k3, k4⟩ := RSs.focus rel.ss (slot_some h)
  obtain ⟨v, e1, a, vs, e2, e3, h1, h2, h3⟩ := k3
  subst e1 e2 e3
  have nd := rel.nd
  rw [k2] at nd
  have na : a ∉ O1 ++ O2 := by
    simp only [List.nodup_append, List.singleton_append, List.nodup_cons] at nd
    intro hm
    rcases List.mem_append.mp hm with q | q
    · exact nd.2.2 a q a List.mem_cons_self rfl
    · exact nd.2.1.1 q
  have lf : Le F (upd F a (.lst vs)) := le_upd h2 _
  have st : Step F H O (upd F a (.lst vs)) H (O1 ++ O2) := ⟨lf, fun b u q _ => q, fun b u q => by
      by_cases e : b = a
      · subst e; exact .inr (.inr (by rw [k2]; simp))
      · rw [upd_ne e] at q; exact .inl q,
    fun b hb => .inl (by rw [k2]; exact mem_append3 hb), fun b u q => ⟨u, q⟩⟩
  have rp : Rep (upd F a (.lst vs)) (.lst xs) (.ref a) := by
    simp only [Rep]
    exact ⟨a, vs, rfl, upd_same, h3.mono lf⟩
  refine ⟨.ref a, upd F a (.lst vs), O1 ++ O2, k1, st, ⟨fun b u q => ?_, ?_, ?_⟩, rp⟩
  · by_cases e : b = a
    · subst e; rw [upd_same] at q; rw [h1]; exact q
    · rw [upd_ne e] at q; exact rel.le _ _ q
  · have q := k4 (upd F a (.lst vs)) H (some (.val (.lst xs))) (some (.ref a)) [] (fun m v bs q hb => ?_) ⟨.ref a, rfl, rfl, rp⟩
    · rw [List.nil_append] at q
      have es : σ.set i (some (.ref a)) = σ := by
        obtain ⟨hi, e⟩ := List.getElem?_eq_some_iff.mp k1
        rw [← e]; exact List.set_getElem_self hi
      rw [es] at q
      exact q
    · refine RM.stay (O := [a]) (O' := []) ⟨lf, fun b u q _ => q, fun b u q => ?_, fun _ h => (nomatch h), fun b u q => ⟨u, q⟩⟩ (fun b hb => by cases List.mem_singleton.mp hb; exact ⟨vs, h1⟩) q (fun b hbm e => ?_)
      · by_cases e : b = a
        · subst e; exact .inr (.inr List.mem_cons_self)
        · rw [upd_ne e] at q; exact .inl q
      · cases List.mem_singleton.mp e
        exact na (hb a hbm)
  · simp only [List.nodup_append, List.singleton_append, List.nodup_cons] at nd ⊢
    exact ⟨nd.1, nd.2.1.2, fun x hx y hy => nd.2.2 x hx y (List.mem_cons_of_mem _ hy)⟩
theorem je_frz {i : Nat} {x : Str} {pos : Pos} (hN : X.N[i]? = some x := by rfl) (hv : Vis X.env.scope x := by first | exact Or.inl rfl | exact Or.inr (Or.inl rfl) | exact Or.inr (Or.inr rfl))
    (hd : (x == ("__debug__" : Str)) = false := by decide) (hcd : (x == ("__classdict__" : Str)) = false := by decide) : PE X (.Name x pos) (trE z W r (.frz i)) := by
  refine PE.imp (pe_var hN hv hd hcd) fun σ H K h => ?_
  obtain ⟨F, O, env, rel, w⟩ := h
  rw [denE_frz] at w
  cases e : slot i env with
  | none => rw [e] at w; exact w.elim
  | some m =>
    rw [e] at w
    cases m with
    | val d =>
      obtain ⟨v, as, k1, k2, _⟩ := slot_val rel e
      exact ⟨v, k1, w F H O (Step.refl _ _ _) rel v [] ⟨rfl, k2.2⟩ (Fresh.nil _ _)⟩
    | own io xs =>
      cases io with
      | true => exact w.elim
      | false =>
        obtain ⟨v, F', O', k1, st, rel', rp⟩ := froze rel e
        exact ⟨v, k1, w F' H O' st rel' v [] ⟨rfl, rp⟩ (Fresh.nil _ _)⟩
    | deal io b n => exact w.elim
    | ex c d => exact w.elim

/-! ### constants -/
theorem cst_in {d : D} {v : V} {σ : St} {H : Hp} {K : VK} (h : trE z W r (.cst d) σ H K) (q : ∀ F, Rep F d v) : K v H := by
  obtain ⟨F, O, env, rel, w⟩ := h
  rw [denE_cst] at w
  exact w F H O (Step.refl _ _ _) rel v [] ⟨rfl, q F⟩ (Fresh.nil _ _)
theorem je_int {i j pos} : PE X (.Constant (.int i) j pos) (trE z W r (.cst (.int i))) := PE.imp pe_int fun _ _ _ h => cst_in h fun _ => pInt
theorem je_bl {b j pos} : PE X (.Constant (.bool b) j pos) (trE z W r (.cst (.bl b))) := PE.imp pe_bl fun _ _ _ h => cst_in h fun _ => pBl
theorem je_non {j pos} : PE X (.Constant .none j pos) (trE z W r (.cst .non)) := PE.imp pe_non fun _ _ _ h => cst_in h fun _ => by simp only [Rep]
theorem je_str {x j pos} : PE X (.Constant (.str x) j pos) (trE z W r (.cst (.str x))) := PE.imp pe_str fun _ _ _ h => cst_in h fun _ => by simp only [Rep]

/-! ### operators -/
variable {a b c : Expr} {ma mb mc : E} {pos : Pos}
theorem rds2 {F H : Hp} {ds : List D} {x y : V} (h : Rds F H ds [x, y]) : ∃ d e, ds = [d, e] ∧ Rd1 F H d x ∧ Rd1 F H e y := by
  cases ds with
  | nil => simp [Rds] at h
  | cons d ds =>
    obtain ⟨v, r', e, h1, h2⟩ := h
    cases e
    cases ds with
    | nil => simp [Rds] at h2
    | cons e ds =>
      obtain ⟨v, r', e', h3, h4⟩ := h2
      cases e'
      cases ds with
      | nil => exact ⟨d, e, rfl, h1, h3⟩
      | cons f ds => obtain ⟨v, r', e', _⟩ := h4; cases e'
theorem rds1 {F H : Hp} {ds : List D} {x : V} (h : Rds F H ds [x]) : ∃ d, ds = [d] ∧ Rd1 F H d x := by
  cases ds with
  | nil => simp [Rds] at h
  | cons d ds =>
    obtain ⟨v, r', e, h1, h2⟩ := h
    cases e
    cases ds with
    | nil => exact ⟨d, rfl, h1⟩
    | cons e ds => obtain ⟨v, r', e', _⟩ := h2; cases e'
theorem rds3 {F H : Hp} {ds : List D} {x y u : V} (h : Rds F H ds [x, y, u]) : ∃ d e f, ds = [d, e, f] ∧ Rd1 F H d x ∧ Rd1 F H e y ∧ Rd1 F H f u := by
  cases ds with
  | nil => simp [Rds] at h
  | cons d ds =>
    obtain ⟨v, r', e, h1, h2⟩ := h
    cases e
    obtain ⟨e, f, rfl, h3, h4⟩ := rds2 h2
    exact ⟨d, e, f, rfl, h1, h3, h4⟩
theorem op2_in {o : Op} {r2 : R2} (sp : Sp2 o r2) {σ : St} {H : Hp} {K : VK} (h : trE z W r (.op o (.cons ma (.cons mb .nil))) σ H K) : tOp r2 (trE z W r ma) (trE z W r mb) σ H K :=
  trE.mono (two_in (op_in h)) fun x H1 h1 => trE.mono h1 fun y H2 ⟨F, ds, w, l, e, rd, f⟩ => by
    obtain ⟨d, e', rfl, g1, g2⟩ := rds2 rd
    exact sp F H2 d e' x y w K l e g1 g2 f
theorem je_bin {op : Operator} {o : Op} {r2 : R2} (ho : OpR X (binaryOp op) r2) (sp : Sp2 o r2) (ha : PE X a (trE z W r ma)) (hb : PE X b (trE z W r mb)) :
    PE X (.BinOp a op b pos) (trE z W r (.op o (.cons ma (.cons mb .nil)))) := PE.imp (pe_op ho ha hb) fun _ _ _ h => op2_in sp h
theorem je_add (ha : PE X a (trE z W r ma)) (hb : PE X b (trE z W r mb)) : PE X (.BinOp a .Add b pos) (trE z W r (.op .add (.cons ma (.cons mb .nil)))) := je_bin or_add sp_add ha hb
theorem je_sub (ha : PE X a (trE z W r ma)) (hb : PE X b (trE z W r mb)) : PE X (.BinOp a .Sub b pos) (trE z W r (.op .sub (.cons ma (.cons mb .nil)))) := je_bin op_sub sp_sub ha hb
theorem je_mul (ha : PE X a (trE z W r ma)) (hb : PE X b (trE z W r mb)) : PE X (.BinOp a .Mult b pos) (trE z W r (.op .mul (.cons ma (.cons mb .nil)))) := je_bin or_mul sp_mul ha hb
theorem je_fdiv (ha : PE X a (trE z W r ma)) (hb : PE X b (trE z W r mb)) : PE X (.BinOp a .FloorDiv b pos) (trE z W r (.op .fdiv (.cons ma (.cons mb .nil)))) := je_bin op_fdivW sp_fdiv ha hb
theorem je_mod (ha : PE X a (trE z W r ma)) (hb : PE X b (trE z W r mb)) : PE X (.BinOp a .Mod b pos) (trE z W r (.op .mod (.cons ma (.cons mb .nil)))) := je_bin op_mod sp_mod ha hb
theorem je_pow (ha : PE X a (trE z W r ma)) (hb : PE X b (trE z W r mb)) : PE X (.BinOp a .Pow b pos) (trE z W r (.op .pow (.cons ma (.cons mb .nil)))) := je_bin op_pow sp_pow ha hb
theorem op1_in {o : Op} {r1 : V → Hp → VK → Prop} (sp : ∀ (F H : Hp) (d : D) (x : V) (w : Z) (K : VK), Le F H → evalOp o [d] = some w → Rd1 F H d x → Fin F H w K → r1 x H K) {σ : St} {H : Hp} {K : VK}
    (h : trE z W r (.op o (.cons ma .nil)) σ H K) : trE z W r ma σ H fun x H1 => r1 x H1 K :=
  trE.mono (one_in (op_in h)) fun x H1 ⟨F, ds, w, l, e, rd, f⟩ => by
    obtain ⟨d, rfl, g1⟩ := rds1 rd
    exact sp F H1 d x w K l e g1 f
theorem je_neg (ha : PE X a (trE z W r ma)) : PE X (.UnaryOp .USub a pos) (trE z W r (.op .neg (.cons ma .nil))) :=
  PE.imp (pe_un un_neg ha) fun _ _ _ h => op1_in (r1 := rU fun i => .int (-i)) (fun F H d x w K l e q f => by
    cases d <;> simp [evalOp] at e
    subst e
    rw [rInt q]
    exact ⟨_, rfl, f.leaf l pInt⟩) h

/-! ### comparisons -/
theorem je_cmp {op : CmpOp} {o : Op} {r2 : R2} (ho : OpR X (compareOp op) r2) (sp : Sp2 o r2) (ha : PE X a (trE z W r ma)) (hb : PE X b (trE z W r mb)) (hm : behindInMarks op b = false) :
    PE X (.Compare a [op] [b] pos) (trE z W r (.op o (.cons ma (.cons mb .nil)))) := PE.imp (pe_cmpR ho ha hb hm) fun _ _ _ h => op2_in sp h
/-- a test by its value -/
theorem testE {e : E} {σ : St} {H : Hp} {K : Bool → Hp → Prop} (hd : ∀ env, denT r e env = test1 (denE r e env)) (h : trT z W r e σ H K) : trE z W r e σ H fun v H1 => ∃ F d k, Le F H1 ∧ Rd1 F H1 d v ∧ truth d = some k ∧ K k H1 := by
  obtain ⟨F, O, env, rel, w⟩ := h
  rw [hd] at w
  refine ⟨F, O, env, rel, wX.bind w fun q env1 F1 H1 O1 _ s1 r1 w1 => ?_⟩
  intro v t hq ft
  dsimp only at w1
  cases g : q.get env1 with
  | none => rw [g] at w1; exact w1.elim
  | some d =>
    rw [g] at w1
    dsimp only at w1
    cases tv : truth d with
    | none => rw [tv] at w1; exact w1.elim
    | some k =>
      rw [tv] at w1
      have rd : Rds F1 H1 [d] [v] := gets_rd r1 (qs := [q]) (t := t) (by simp only [gets, g]) ⟨v, [], t, [], rfl, (List.append_nil t).symm, hq, rfl, rfl⟩
      obtain ⟨d', e1, e2⟩ := rds1 rd
      cases e1
      exact ⟨F1, d, k, r1.le, e2, tv, w1 F1 H1 O1 (Step.refl _ _ _) r1⟩
theorem truth_bl {F H : Hp} {d : D} {k c : Bool} {v : V} (h : Rd1 F H d v) (e : truth d = some k) (q : v = .bl c) : c = k := by
  subst q
  cases d with
  | bl b => have := rBl h; cases this; simpa [truth] using e
  | non => exact absurd (rNon h) (by simp)
  | int i => exact absurd (rInt h) (by simp)
  | str x => exact absurd (rStr h) (by simp)
  | tup xs => obtain ⟨a, vs, e1, _⟩ := h.tup; cases e1
  | lst xs => obtain ⟨a, vs, e1, _⟩ := h; cases e1
  | ins c fs => simp [truth] at e
theorem jt_cmp {op : CmpOp} {o : Op} {r2 : R2} (ho : OpR X (compareOp op) r2) (sp : Sp2 o r2) (hb1 : ∀ d e w, evalOp o [d, e] = some w → ∃ k, w = .val (.bl k)) (ha : PE X a (trE z W r ma)) (hb : PE X b (trE z W r mb)) (hm : behindInMarks op b = false) :
    PT X (.Compare a [op] [b] pos) (trT z W r (.op o (.cons ma (.cons mb .nil)))) := by
  refine PT.imp (pt_cmpR ho ha hb hm) fun σ H K h => ?_
  -- the value's own way, then its truth
  obtain ⟨F, O, env, rel, w⟩ := h
  have h2 : trE z W r (.op o (.cons ma (.cons mb .nil))) σ H fun v H1 => ∃ k, v = .bl k ∧ K k H1 := by
    refine ⟨F, O, env, rel, ?_⟩
    have hd : denT r (.op o (.cons ma (.cons mb .nil))) env = test1 (denE r (.op o (.cons ma (.cons mb .nil))) env) := denT_plain r rfl env
    rw [hd] at w
    refine wX.bind w fun q env1 F1 H1 O1 ex s1 r1 w1 => ?_
    intro v t hq ft
    -- what the operation gave is a bool
    have hv : ∃ k, q = .mv (.val (.bl k)) := by
      rw [denE_op] at ex
      cases e1 : denEs r (.cons ma (.cons mb .nil)) env with
      | stuck => rw [e1] at ex; cases ex
      | exc c d e => rw [e1] at ex; cases ex
      | ok p =>
        obtain ⟨qs, e2⟩ := p
        rw [e1] at ex
        simp only [R.bind] at ex
        cases e3 : gets e2 qs with
        | none => rw [e3] at ex; cases ex
        | some ds =>
          rw [e3] at ex
          dsimp only at ex
          cases e4 : evalOp o ds with
          | none => rw [e4] at ex; cases ex
          | some wz =>
            rw [e4] at ex
            have l2 : ∃ d e, ds = [d, e] := by
              have : qs.length = 2 := by
                rw [denEs] at e1
                cases f1 : denG r ma false env with
                | stuck => rw [f1] at e1; cases e1
                | exc c d e => rw [f1] at e1; cases e1
                | ok p1 =>
                  obtain ⟨q1, e5⟩ := p1
                  rw [f1] at e1
                  simp only [R.bind] at e1
                  rw [denEs] at e1
                  cases f2 : denG r mb false e5 with
                  | stuck => rw [f2] at e1; cases e1
                  | exc c d e => rw [f2] at e1; cases e1
                  | ok p2 =>
                    obtain ⟨q2, e6⟩ := p2
                    rw [f2] at e1
                    simp only [R.bind] at e1
                    rw [denEs] at e1
                    cases e1
                    rfl
              match qs, this, e3 with
              | [q1, q2], _, e3 =>
                simp only [gets] at e3
                cases g1 : q1.get e2 with
                | none => rw [g1] at e3; cases e3
                | some d1 =>
                  cases g2 : q2.get e2 with
                  | none => rw [g1, g2] at e3; cases e3
                  | some d2 =>
                    rw [g1, g2] at e3
                    cases e3
                    exact ⟨d1, d2, rfl⟩
            obtain ⟨d, e, rfl⟩ := l2
            obtain ⟨k, rfl⟩ := hb1 d e wz e4
            cases ex
            exact ⟨k, rfl⟩
    obtain ⟨k, rfl⟩ := hv
    have hv : v = .bl k := by
      have := hq.2
      simpa only [Rep] using this
    refine ⟨k, hv, ?_⟩
    simp only [Q.get, truth] at w1
    exact w1 F1 H1 O1 (Step.refl _ _ _) r1
  exact op2_in sp h2
end
end Rx

/-! RxRules2 -/
/-! RxRules2: truth, displays, places, parts, built-in functions. -/
set_option linter.all false
set_option Elab.async false
set_option maxRecDepth 100000
set_option maxHeartbeats 4000000
namespace Rx
open PySem L2

theorem bl_eq {d e : D} {w : Z} (h : evalOp .eq [d, e] = some w) : ∃ k, w = .val (.bl k) := by
  simp [evalOp] at h
  rw [← h.2]
  exact ⟨_, rfl⟩
theorem bl_ne {d e : D} {w : Z} (h : evalOp .ne [d, e] = some w) : ∃ k, w = .val (.bl k) := by
  simp [evalOp] at h
  rw [← h.2]
  exact ⟨_, rfl⟩
theorem bl_lt {d e : D} {w : Z} (h : evalOp .lt [d, e] = some w) : ∃ k, w = .val (.bl k) := by
  cases d <;> cases e <;> simp [evalOp] at h
  exact ⟨_, h.symm⟩
theorem bl_le {d e : D} {w : Z} (h : evalOp .le [d, e] = some w) : ∃ k, w = .val (.bl k) := by
  cases d <;> cases e <;> simp [evalOp] at h
  exact ⟨_, h.symm⟩
theorem bl_gt {d e : D} {w : Z} (h : evalOp .gt [d, e] = some w) : ∃ k, w = .val (.bl k) := by
  cases d <;> cases e <;> simp [evalOp] at h
  exact ⟨_, h.symm⟩
theorem bl_ge {d e : D} {w : Z} (h : evalOp .ge [d, e] = some w) : ∃ k, w = .val (.bl k) := by
  cases d <;> cases e <;> simp [evalOp] at h
  exact ⟨_, h.symm⟩
theorem leaf_flat {F : Hp} {d : D} {v : V} (h : Rep F d v) (l : d.leaf = true) : flatV v = true := by
  cases d <;> simp [D.leaf] at l <;> (simp only [Rep] at h; subst h; rfl)
theorem leaf_all {F : Hp} : ∀ {ds : List D} {vs : List V}, Reps F ds vs → ds.all D.leaf = true → vs.all flatV = true
  | [], vs, h, _ => by rw [h.nil_inv]; rfl
  | d :: ds, vs, h, l => by
    obtain ⟨v, r, e, q, t⟩ := h.cons_inv
    subst e
    simp only [List.all_cons, Bool.and_eq_true] at l ⊢
    exact ⟨leaf_flat q l.1, leaf_all t l.2⟩
theorem leaf_eqv {F : Hp} {d e : D} {v w : V} (h : Rep F d v) (k : Rep F e w) (l1 : d.leaf = true) (l2 : e.leaf = true) : eqV v w = d.eqv e := by
  cases d <;> simp [D.leaf] at l1 <;> cases e <;> simp [D.leaf] at l2 <;> (simp only [Rep] at h k; subst h k; simp [eqV, D.eqv])
theorem in_reps {F : Hp} {d : D} {v : V} (hd : Rep F d v) (ld : d.leaf = true) : ∀ {ds : List D} {vs : List V}, Reps F ds vs → ds.all D.leaf = true → inV v vs = ds.any fun x => x.eqv d
  | [], vs, h, _ => by rw [h.nil_inv]; rfl
  | e :: ds, vs, h, l => by
    obtain ⟨w, r, e1, q, t⟩ := h.cons_inv
    subst e1
    simp only [List.all_cons, Bool.and_eq_true] at l
    have ih := in_reps hd ld t l.2
    simp only [inV, List.any_cons] at ih ⊢
    rw [leaf_eqv q hd l.1 ld, ih]
theorem leaf_rep {F H : Hp} {d : D} {v : V} (h : Rd1 F H d v) (l : d.leaf = true) : Rep F d v := by
  cases d <;> simp [D.leaf] at l <;> exact h
theorem sp_in {K : PySem.W.Frag} : Sp2 .in_ (rIn K false) := by
  intro F H d1 d2 x y w Kk l e h1 h2 f
  cases d2 <;> simp [evalOp] at e
  · obtain ⟨⟨g1, g2⟩, e⟩ := e
    subst e
    obtain ⟨a, vs, rfl, ha, ra⟩ := h2.tup
    have l2 := List.all_eq_true.mpr g2
    refine ⟨a, vs, rfl, .inr (SqT.of (l _ _ ha)), leaf_flat (leaf_rep h1 g1) g1, leaf_all ra l2, ?_⟩
    rw [if_neg (by simp), in_reps (leaf_rep h1 g1) g1 ra l2]
    exact f.leaf l pBl
  · obtain ⟨⟨g1, g2⟩, e⟩ := e
    subst e
    obtain ⟨a, vs, rfl, ha, ra⟩ := h2
    have l2 := List.all_eq_true.mpr g2
    refine ⟨a, vs, rfl, .inl (SqL.of ha), leaf_flat (leaf_rep h1 g1) g1, leaf_all ra l2, ?_⟩
    rw [if_neg (by simp), in_reps (leaf_rep h1 g1) g1 ra l2]
    exact f.leaf l pBl
theorem sp_nin {K : PySem.W.Frag} : Sp2 .nin (rIn K true) := by
  intro F H d1 d2 x y w Kk l e h1 h2 f
  cases d2 <;> simp only [evalOp] at e
  all_goals try (simp at e; done)
  · split at e
    · rename_i g
      cases e
      simp only [Bool.and_eq_true] at g
      obtain ⟨g1, l2⟩ := g
      obtain ⟨a, vs, rfl, ha, ra⟩ := h2.tup
      refine ⟨a, vs, rfl, .inr (SqT.of (l _ _ ha)), leaf_flat (leaf_rep h1 g1) g1, leaf_all ra l2, ?_⟩
      rw [if_pos rfl, in_reps (leaf_rep h1 g1) g1 ra l2]
      exact f.leaf l pBl
    · cases e
  · split at e
    · rename_i g
      cases e
      simp only [Bool.and_eq_true] at g
      obtain ⟨g1, l2⟩ := g
      obtain ⟨a, vs, rfl, ha, ra⟩ := h2
      refine ⟨a, vs, rfl, .inl (SqL.of ha), leaf_flat (leaf_rep h1 g1) g1, leaf_all ra l2, ?_⟩
      rw [if_pos rfl, in_reps (leaf_rep h1 g1) g1 ra l2]
      exact f.leaf l pBl
    · cases e
theorem bl_in {d e : D} {w : Z} (h : evalOp .in_ [d, e] = some w) : ∃ k, w = .val (.bl k) := by
  cases e <;> simp only [evalOp] at h
  all_goals try (simp at h; done)
  all_goals
    split at h
    · cases h; exact ⟨_, rfl⟩
    · cases h
theorem bl_nin {d e : D} {w : Z} (h : evalOp .nin [d, e] = some w) : ∃ k, w = .val (.bl k) := by
  cases e <;> simp only [evalOp] at h
  all_goals try (simp at h; done)
  all_goals
    split at h
    · cases h; exact ⟨_, rfl⟩
    · cases h

section
variable {X : Cx} {z : Cz} {W : WX} {r : Fs} {a b c : Expr} {ma mb mc : E} {pos : Pos}

theorem je_eq {k : Nat} (hr : Room k X.A) (ha : PE X a (trE z W r ma)) (hb : PE X b (trE z W r mb)) : PE X (.Compare a [.Eq] [b] pos) (trE z W r (.op .eq (.cons ma (.cons mb .nil)))) := je_cmp (op_eqD hr.units) sp_eq ha hb (nomark _)
theorem je_ne {k : Nat} (hr : Room k X.A) (ha : PE X a (trE z W r ma)) (hb : PE X b (trE z W r mb)) : PE X (.Compare a [.NotEq] [b] pos) (trE z W r (.op .ne (.cons ma (.cons mb .nil)))) := je_cmp (op_neD hr.units) sp_ne ha hb (nomark _)
theorem je_lt (ha : PE X a (trE z W r ma)) (hb : PE X b (trE z W r mb)) : PE X (.Compare a [.Lt] [b] pos) (trE z W r (.op .lt (.cons ma (.cons mb .nil)))) := je_cmp op_lt sp_lt ha hb (nomark _)
theorem je_le (ha : PE X a (trE z W r ma)) (hb : PE X b (trE z W r mb)) : PE X (.Compare a [.LtE] [b] pos) (trE z W r (.op .le (.cons ma (.cons mb .nil)))) := je_cmp op_le sp_le ha hb (nomark _)
theorem je_gt (ha : PE X a (trE z W r ma)) (hb : PE X b (trE z W r mb)) : PE X (.Compare a [.Gt] [b] pos) (trE z W r (.op .gt (.cons ma (.cons mb .nil)))) := je_cmp op_gt sp_gt ha hb (nomark _)
theorem je_ge (ha : PE X a (trE z W r ma)) (hb : PE X b (trE z W r mb)) : PE X (.Compare a [.GtE] [b] pos) (trE z W r (.op .ge (.cons ma (.cons mb .nil)))) := je_cmp op_ge sp_ge ha hb (nomark _)
theorem je_in (ha : PE X a (trE z W r ma)) (hb : PE X b (trE z W r mb)) (hm : behindInMarks .In b = false := by rfl) : PE X (.Compare a [.In] [b] pos) (trE z W r (.op .in_ (.cons ma (.cons mb .nil)))) := je_cmp op_in_seq sp_in ha hb hm
theorem je_nin (ha : PE X a (trE z W r ma)) (hb : PE X b (trE z W r mb)) (hm : behindInMarks .NotIn b = false := by rfl) : PE X (.Compare a [.NotIn] [b] pos) (trE z W r (.op .nin (.cons ma (.cons mb .nil)))) := je_cmp op_notIn_seq sp_nin ha hb hm
theorem jt_eq {k : Nat} (hr : Room k X.A) (ha : PE X a (trE z W r ma)) (hb : PE X b (trE z W r mb)) : PT X (.Compare a [.Eq] [b] pos) (trT z W r (.op .eq (.cons ma (.cons mb .nil)))) := jt_cmp (op_eqD hr.units) sp_eq (fun _ _ _ => bl_eq) ha hb (nomark _)
theorem jt_ne {k : Nat} (hr : Room k X.A) (ha : PE X a (trE z W r ma)) (hb : PE X b (trE z W r mb)) : PT X (.Compare a [.NotEq] [b] pos) (trT z W r (.op .ne (.cons ma (.cons mb .nil)))) := jt_cmp (op_neD hr.units) sp_ne (fun _ _ _ => bl_ne) ha hb (nomark _)
theorem jt_lt (ha : PE X a (trE z W r ma)) (hb : PE X b (trE z W r mb)) : PT X (.Compare a [.Lt] [b] pos) (trT z W r (.op .lt (.cons ma (.cons mb .nil)))) := jt_cmp op_lt sp_lt (fun _ _ _ => bl_lt) ha hb (nomark _)
theorem jt_le (ha : PE X a (trE z W r ma)) (hb : PE X b (trE z W r mb)) : PT X (.Compare a [.LtE] [b] pos) (trT z W r (.op .le (.cons ma (.cons mb .nil)))) := jt_cmp op_le sp_le (fun _ _ _ => bl_le) ha hb (nomark _)
theorem jt_gt (ha : PE X a (trE z W r ma)) (hb : PE X b (trE z W r mb)) : PT X (.Compare a [.Gt] [b] pos) (trT z W r (.op .gt (.cons ma (.cons mb .nil)))) := jt_cmp op_gt sp_gt (fun _ _ _ => bl_gt) ha hb (nomark _)
theorem jt_ge (ha : PE X a (trE z W r ma)) (hb : PE X b (trE z W r mb)) : PT X (.Compare a [.GtE] [b] pos) (trT z W r (.op .ge (.cons ma (.cons mb .nil)))) := jt_cmp op_ge sp_ge (fun _ _ _ => bl_ge) ha hb (nomark _)
theorem jt_in (ha : PE X a (trE z W r ma)) (hb : PE X b (trE z W r mb)) (hm : behindInMarks .In b = false := by rfl) : PT X (.Compare a [.In] [b] pos) (trT z W r (.op .in_ (.cons ma (.cons mb .nil)))) := jt_cmp op_in_seq sp_in (fun _ _ _ => bl_in) ha hb hm
theorem jt_nin (ha : PE X a (trE z W r ma)) (hb : PE X b (trE z W r mb)) (hm : behindInMarks .NotIn b = false := by rfl) : PT X (.Compare a [.NotIn] [b] pos) (trT z W r (.op .nin (.cons ma (.cons mb .nil)))) := jt_cmp op_notIn_seq sp_nin (fun _ _ _ => bl_nin) ha hb hm

/-! ### a value as a test -/
theorem truth_v {K : PySem.W.Frag} {F H : Hp} {d : D} {k : Bool} {v : V} (l : Le F H) (h : Rd1 F H d v) (e : truth d = some k) (hs : ∀ x, d ≠ .str x) : TruV K v H k := by
  cases d with
  | bl b => rw [rBl h]; simp [truth] at e; exact e.symm
  | non => rw [rNon h]; simp [truth] at e; exact (e : k = false)
  | int i => rw [rInt h]; simp [truth] at e; rw [← e]; show _ = (i != 0); simp
  | str x => exact absurd rfl (hs x)
  | tup xs =>
    obtain ⟨a, vs, rfl, ha, ra⟩ := h.tup
    refine .inr (.inl ⟨vs, SqT.of (l _ _ ha), ?_⟩)
    have e' : (!xs.isEmpty) = k := by simpa [truth] using e
    rw [← e']
    cases xs with
    | nil => rw [ra.nil_inv]; rfl
    | cons x xs => obtain ⟨v, r, e1, _⟩ := ra.cons_inv; rw [e1]; rfl
  | lst xs =>
    obtain ⟨a, vs, rfl, ha, ra⟩ := h
    refine .inl ⟨vs, SqL.of ha, ?_⟩
    have e' : (!xs.isEmpty) = k := by simpa [truth] using e
    rw [← e']
    cases xs with
    | nil => rw [ra.nil_inv]; rfl
    | cons x xs => obtain ⟨v, r, e1, _⟩ := ra.cons_inv; rw [e1]; rfl
  | ins c fs => simp [truth] at e
/-- a name, a call, a subscript .. as a test -/
theorem jt_val {e : Expr} {me : E} (h : PE X e (trE z W r me)) (hd : plainT me = true := by rfl)
    (he : ∀ whole, isTrue e X.env whole = (do let v ← whole; standAt e.pos; holding [v] (truthy v)) := by intro _; rfl) : PT X e (trT z W r me) := by
  refine PT.imp (pt_truth h he) fun σ H K q => trE.mono (testE (denT_plain r hd) q) fun v H1 ⟨F, d, k, l, rd, tv, kk⟩ => ⟨k, truth_v l rd tv (fun x e => by subst e; simp [truth] at tv), kk⟩
theorem and_in {σ : St} {H : Hp} {K : Bool → Hp → Prop} (h : trT z W r (.and ma mb) σ H K) : tAnd (trT z W r ma) (trT z W r mb) σ H K := by
  obtain ⟨F, O, env, rel, w⟩ := h
  rw [denT_and] at w
  refine ⟨F, O, env, rel, wX.bind w fun k env1 F1 H1 O1 _ s1 r1 w1 => ?_⟩
  cases k with
  | true => exact iteT ⟨F1, O1, env1, r1, w1⟩
  | false => exact iteF (w1 F1 H1 O1 (Step.refl _ _ _) r1)
theorem or_in {σ : St} {H : Hp} {K : Bool → Hp → Prop} (h : trT z W r (.or ma mb) σ H K) : tOr (trT z W r ma) (trT z W r mb) σ H K := by
  obtain ⟨F, O, env, rel, w⟩ := h
  rw [denT_or] at w
  refine ⟨F, O, env, rel, wX.bind w fun k env1 F1 H1 O1 _ s1 r1 w1 => ?_⟩
  cases k with
  | false => exact iteF ⟨F1, O1, env1, r1, w1⟩
  | true => exact iteT (w1 F1 H1 O1 (Step.refl _ _ _) r1)
theorem PW.imp {e : Expr} {t t' : TT} (h : PW X e t) (k : ∀ σ H K, t' σ H K → t σ H K) : PW X e t' := ⟨fun whole pins s σ H Q I q => h.run whole pins s σ H Q I (k σ H Q q)⟩
theorem jw_and1 (ha : PT X a (trT z W r ma)) : PW X (.BoolOp .And [a] pos) (trT z W r ma) := pw_and1 ha
theorem jw_or1 (ha : PT X a (trT z W r ma)) : PW X (.BoolOp .Or [a] pos) (trT z W r ma) := pw_or1 ha
theorem jw_and {rest : List Expr} (ha : PT X a (trT z W r ma)) (hb : PW X (.BoolOp .And (b :: rest) pos) (trT z W r mb)) : PW X (.BoolOp .And (a :: b :: rest) pos) (trT z W r (.and ma mb)) := PW.imp (pw_and ha hb) fun _ _ _ h => and_in h
theorem jw_or {rest : List Expr} (ha : PT X a (trT z W r ma)) (hb : PW X (.BoolOp .Or (b :: rest) pos) (trT z W r mb)) : PW X (.BoolOp .Or (a :: b :: rest) pos) (trT z W r (.or ma mb)) := PW.imp (pw_or ha hb) fun _ _ _ h => or_in h
theorem jt_not (ha : PT X a (trT z W r ma)) : PT X (.UnaryOp .Not a pos) (trT z W r (.not ma)) := PT.imp (pt_not ha) fun σ H K h => by
  obtain ⟨F, O, env, rel, w⟩ := h
  rw [denT_not] at w
  exact ⟨F, O, env, rel, wX.bind w fun k env1 F1 H1 O1 _ s1 r1 w1 => w1 F1 H1 O1 (Step.refl _ _ _) r1⟩
/-- .. as values: truths -/
theorem bool_v {F H : Hp} {σ : St} {q : Q} {v : V} {t : List Addr} {k : Bool} (h : RQ z F H σ q v t) (e : q = .mv (.val (.bl k))) : v = .bl k := by
  subst e
  have := h.2
  simpa only [Rep] using this
theorem je_and1 (ha : PE X a (trE z W r ma)) : PE X (.BoolOp .And [a] pos) (trE z W r ma) := pe_one ha
theorem je_or1 (ha : PE X a (trE z W r ma)) : PE X (.BoolOp .Or [a] pos) (trE z W r ma) := pe_one ha
theorem je_and {rest : List Expr} (ha : PE X a (trE z W r ma)) (hb : PE X (.BoolOp .And (b :: rest) pos) (trE z W r mb)) : PE X (.BoolOp .And (a :: b :: rest) pos) (trE z W r (.and ma mb)) := PE.imp (pe_and ha hb) fun σ H K h => by
  obtain ⟨F, O, env, rel, w⟩ := h
  rw [denE_and] at w
  refine ⟨F, O, env, rel, wX.bind w fun q env1 F1 H1 O1 _ s1 r1 w1 => ?_⟩
  intro v t hq ft
  dsimp only at w1
  split at w1
  · exact ⟨true, bool_v hq rfl, iteT ⟨F1, O1, env1, r1, by
      cases e : denE r mb env1 with
      | stuck => rw [e] at w1; exact w1
      | exc c d e2 => rw [e] at w1; exact w1
      | ok p =>
        obtain ⟨q2, env2⟩ := p
        rw [e] at w1
        intro F' H' O' s' r' v2 t2 h2 f2
        exact w1 F' H' O' s' r' v2 t2 h2 ⟨f2.1, fun a ha => ⟨(f2.2 a ha).1, s1.back (f2.2 a ha).2⟩⟩⟩⟩
  · exact ⟨false, bool_v hq rfl, iteF (w1 F1 H1 O1 (Step.refl _ _ _) r1 _ [] ⟨rfl, pBl⟩ (Fresh.nil _ _))⟩
  · exact w1.elim
theorem je_or {rest : List Expr} (ha : PE X a (trE z W r ma)) (hb : PE X (.BoolOp .Or (b :: rest) pos) (trE z W r mb)) : PE X (.BoolOp .Or (a :: b :: rest) pos) (trE z W r (.or ma mb)) := PE.imp (pe_or ha hb) fun σ H K h => by
  obtain ⟨F, O, env, rel, w⟩ := h
  rw [denE_or] at w
  refine ⟨F, O, env, rel, wX.bind w fun q env1 F1 H1 O1 _ s1 r1 w1 => ?_⟩
  intro v t hq ft
  dsimp only at w1
  split at w1
  · exact ⟨false, bool_v hq rfl, iteF ⟨F1, O1, env1, r1, by
      cases e : denE r mb env1 with
      | stuck => rw [e] at w1; exact w1
      | exc c d e2 => rw [e] at w1; exact w1
      | ok p =>
        obtain ⟨q2, env2⟩ := p
        rw [e] at w1
        intro F' H' O' s' r' v2 t2 h2 f2
        exact w1 F' H' O' s' r' v2 t2 h2 ⟨f2.1, fun a ha => ⟨(f2.2 a ha).1, s1.back (f2.2 a ha).2⟩⟩⟩⟩
  · exact ⟨true, bool_v hq rfl, iteT (w1 F1 H1 O1 (Step.refl _ _ _) r1 _ [] ⟨rfl, pBl⟩ (Fresh.nil _ _))⟩
  · exact w1.elim
theorem je_not (ha : PE X a (trE z W r ma)) : PE X (.UnaryOp .Not a pos) (trE z W r (.not ma)) := PE.imp (pe_not ha) fun σ H K h => by
  obtain ⟨F, O, env, rel, w⟩ := h
  rw [denE_not] at w
  refine ⟨F, O, env, rel, wX.bind w fun q env1 F1 H1 O1 _ s1 r1 w1 => ?_⟩
  intro v t hq ft
  dsimp only at w1
  split at w1
  · exact ⟨_, bool_v hq rfl, w1 F1 H1 O1 (Step.refl _ _ _) r1 _ [] ⟨rfl, pBl⟩ (Fresh.nil _ _)⟩
  · exact w1.elim
/-- the wish of a later part, from the start of the whole -/
theorem later {F H F1 H1 : Hp} {O O1 : List Addr} {env1 : Env} {σ : St} {me : E} {K : VK} (s1 : Step F H O F1 H1 O1) (r1 : z.Rel F1 H1 env1 σ O1)
    (w1 : wX z W (denE r me env1) F1 H1 O1 σ fun q F' H' O' => ∀ v t, RQ z F' H' σ q v t → Fresh H O' t → K v H') : trE z W r me σ H1 K := by
  refine ⟨F1, O1, env1, r1, ?_⟩
  cases e : denE r me env1 with
  | stuck => rw [e] at w1; exact w1
  | exc c d e2 => rw [e] at w1; exact w1
  | ok p =>
    obtain ⟨q2, env2⟩ := p
    rw [e] at w1
    intro F' H' O' s' r' v2 t2 h2 f2
    exact w1 F' H' O' s' r' v2 t2 h2 ⟨f2.1, fun a ha => ⟨(f2.2 a ha).1, s1.back (f2.2 a ha).2⟩⟩
theorem je_ite (hc : PT X c (trT z W r mc)) (ha : PE X a (trE z W r ma)) (hb : PE X b (trE z W r mb)) : PE X (.IfExp c a b pos) (trE z W r (.ite mc ma mb)) := PE.imp (pe_ifExp hc ha hb) fun σ H K h => by
  obtain ⟨F, O, env, rel, w⟩ := h
  rw [denE_ite] at w
  refine ⟨F, O, env, rel, wX.bind w fun k env1 F1 H1 O1 _ s1 r1 w1 => ?_⟩
  cases k with
  | true => exact iteT (later s1 r1 w1)
  | false => exact iteF (later s1 r1 w1)
/-! ### displays -/
variable {e : Expr} {es : List Expr} {me : E} {mes : Es}
def trKs (z : Cz) (W : WX) (r : Fs) (es : Es) : TA := fun σ H K => ∃ F O env, z.Rel F H env σ O ∧ wX z W (denKs r es env) F H O σ fun ds F' H' O' => ∀ vs, Reps F' ds vs → K vs H'
/-- a value to be kept, told in what never changes -/
theorem kept {F H0 H : Hp} {env : Env} {σ : St} {O : List Addr} {q : Q} {v : V} {t : List Addr} {d : D} (rel : z.Rel F H env σ O) (hq : RQ z F H σ q v t) (f : Fresh H0 O t) (k : q.keep = some d) :
    ∃ F', Rep F' d v ∧ Le F F' ∧ Le F' H ∧ z.Rel F' H env σ O ∧ ∀ a o, F' a = some o → F a = some o ∨ H0 a = none := by
  cases q with
  | ref i => simp [Q.keep] at k
  | mv m =>
    cases m with
    | val d' =>
      simp [Q.keep] at k
      subst k
      exact ⟨F, hq.2, Le.refl F, rel.le, rel, fun _ _ h => .inl h⟩
    | own io xs =>
      cases io with
      | true => simp [Q.keep] at k
      | false =>
        simp [Q.keep] at k
        subst k
        obtain ⟨a, vs, e1, e2, h1, h2, h3⟩ := hq
        subst e1 e2
        obtain ⟨na, hn⟩ := f.2 a List.mem_cons_self
        have lf : Le F (upd F a (.lst vs)) := le_upd h2 _
        have ll : Le (upd F a (.lst vs)) H := fun b u q => by
          by_cases e : b = a
          · subst e; rw [upd_same] at q; rw [h1]; exact q
          · rw [upd_ne e] at q; exact rel.le _ _ q
        refine ⟨upd F a (.lst vs), ?_, lf, ll, ⟨ll, RSs.map rel.ss fun m v bs q hb => ?_, rel.nd⟩, fun b o q => ?_⟩
        · simp only [Rep]
          exact ⟨a, vs, rfl, upd_same, h3.mono lf⟩
        · refine RM.stay (O := [a]) (O' := []) ⟨lf, fun b u q _ => q, fun b u q => ?_, fun _ h => (nomatch h), fun b u q => ⟨u, q⟩⟩ (fun b hb => by cases List.mem_singleton.mp hb; exact ⟨vs, h1⟩) q (fun b hbm e => ?_)
          · by_cases e : b = a
            · subst e; exact .inr (.inr List.mem_cons_self)
            · rw [upd_ne e] at q; exact .inl q
          · cases List.mem_singleton.mp e
            exact na (hb a hbm)
        · by_cases e : b = a
          · subst e; exact .inr hn
          · rw [upd_ne e] at q; exact .inl q
    | deal io b n => simp [Q.keep] at k
    | ex c d => simp [Q.keep] at k
theorem kept_step {F H0 H F0 : Hp} {O0 O : List Addr} {F' : Hp} (s : Step F0 H0 O0 F H O) (l : Le F F') (k : ∀ a o, F' a = some o → F a = some o ∨ H0 a = none) : Step F0 H0 O0 F' H O :=
  ⟨s.grow.trans l, s.keep, fun a o q => by
    rcases k a o q with y | y
    · exact s.froz a o y
    · exact .inr (.inl y), s.ownd, s.there⟩
theorem jk_nil : PA X [] (trKs z W r .nil) := PA.imp pa_nil fun σ H K h => by
  obtain ⟨F, O, env, rel, w⟩ := h
  rw [denKs] at w
  exact w F H O (Step.refl _ _ _) rel [] Reps.nil
theorem jk_cons (ha : PE X e (trE z W r me)) (hr : PA X es (trKs z W r mes)) (hs : starEach (e :: es) X.env = (false, eval e X.env) :: starEach es X.env := by rfl) :
    PA X (e :: es) (trKs z W r (.cons me mes)) := PA.imp (pa_cons ha hr hs) fun σ H K h => by
  obtain ⟨F, O, env, rel, w⟩ := h
  rw [denKs] at w
  refine ⟨F, O, env, rel, wX.bind0 w fun q env1 F1 H1 O1 _ s1 r1 w1 => ?_⟩
  intro v t hq ft
  dsimp only at w1
  cases k : q.keep with
  | none => rw [k] at w1; exact w1.elim
  | some d =>
    rw [k] at w1
    obtain ⟨F2, rp, l1, l2, r2, kk⟩ := kept r1 hq ft k
    have w2 : wX z W ((denKs r mes env1).bind fun x => .ok (d :: x.1, x.2)) F2 H1 O1 σ fun ds F' H' O' => ∀ vs, Reps F' ds vs → K vs H' := wX.shift (kept_step s1 l1 kk) w1
    refine ⟨F2, O1, env1, r2, wX.bind w2 fun ds env2 F3 H3 O3 _ s3 r3 w3 => ?_⟩
    intro vs rs
    exact w3 F3 H3 O3 (Step.refl _ _ _) r3 (v :: vs) (Reps.cons (rp.mono s3.grow) rs)
theorem je_tup {x1} (h : PA X es (trKs z W r mes)) : PE X (.Tuple es x1 pos) (trE z W r (.tup mes)) := PE.imp (pe_tup h) fun σ H K h => by
  obtain ⟨F, O, env, rel, w⟩ := h
  rw [denE_tup] at w
  refine ⟨F, O, env, rel, wX.bind w fun ds env1 F1 H1 O1 _ s1 r1 w1 => ?_⟩
  intro vs rs
  dsimp only at w1
  by_cases hl : ds.length ≤ maxLen
  · rw [if_pos hl] at w1
    refine ⟨by rw [rs.len, ← maxLen_eq]; exact hl, fun p hp => ?_⟩
    have fp := not_in r1.le hp
    obtain ⟨s2, r2⟩ := Cz.Rel.ext r1 (le_upd fp (.tup vs)) (le_upd hp (.tup vs)) (le_upd2 r1.le _) (fun a o e => by
      by_cases ha : a = p
      · subst ha; exact .inr hp
      · rw [upd_ne ha] at e; exact .inl e)
    refine w1 _ _ O1 s2 r2 _ [] ⟨rfl, ?_⟩ (Fresh.nil _ _)
    simp only [Rep]
    exact ⟨p, vs, rfl, upd_same, rs.mono (le_upd fp _)⟩
  · rw [if_neg hl] at w1
    exact w1.elim
theorem je_lst (h : PA X es (trKs z W r mes)) : PE X (.List es pos) (trE z W r (.lst mes)) := PE.imp (pe_lst h) fun σ H K h => by
  obtain ⟨F, O, env, rel, w⟩ := h
  rw [denE_lst] at w
  refine ⟨F, O, env, rel, wX.bind w fun ds env1 F1 H1 O1 _ s1 r1 w1 => ?_⟩
  intro vs rs
  dsimp only at w1
  by_cases hl : ds.length ≤ maxLen
  · rw [if_pos hl] at w1
    refine ⟨by rw [rs.len, ← maxLen_eq]; exact hl, fun p hp => ?_⟩
    have fp := not_in r1.le hp
    obtain ⟨s2, r2⟩ := Cz.Rel.ext r1 (Le.refl F1) (le_upd hp (.lst vs)) (r1.le.trans (le_upd hp _)) (fun _ _ h => .inl h)
    refine w1 F1 _ O1 s2 r2 _ [p] ⟨p, vs, rfl, rfl, upd_same, fp, rs⟩ ⟨by simp, fun b hb => ?_⟩
    cases List.mem_singleton.mp hb
    refine ⟨fun hO => ?_, s1.back hp⟩
    obtain ⟨vs2, e⟩ := r1.ofO p hO
    rw [hp] at e; cases e
  · rw [if_neg hl] at w1
    exact w1.elim

/-! ### places and parts -/
theorem je_ix (ha : PE X a (trE z W r ma)) (hb : PE X b (trE z W r mb)) (hs : PlainIx b := by exact fun _ _ => rfl) : PE X (.Subscript a b pos) (trE z W r (.op .ix (.cons ma (.cons mb .nil)))) :=
  PE.imp (pe_ix (IxR.or ix_list ix_tup) ha hb hs) fun _ _ _ h => op2_in sp_ix h
theorem je_sl10 (ha : PE X a (trE z W r ma)) (hb : PE X b (trE z W r mb)) {p2} : PE X (.Subscript a (.Slice (some b) none none p2) pos) (trE z W r (.op (.sl true false) (.cons ma (.cons mb .nil)))) :=
  PE.imp (pe_slice or_sl ha (po_some hb) po_none) fun σ H K h => trE.mono (two_in (op_in h)) fun x H1 h1 => trE.mono h1 fun y H2 ⟨F, ds, w, l, e, rd, f⟩ => by
    obtain ⟨d, e', rfl, g1, g2⟩ := rds2 rd
    cases d <;> try (simp [evalOp] at e; done)
    · cases e' <;> try (simp [evalOp] at e; done)
      cases e
      exact ⟨_, rInt g2, sl_tup1 l g1 f⟩
    · cases e' <;> try (simp [evalOp] at e; done)
      cases e
      exact ⟨_, rInt g2, sl_lst l g1 f⟩
theorem je_sl01 (ha : PE X a (trE z W r ma)) (hb : PE X b (trE z W r mb)) {p2} : PE X (.Subscript a (.Slice none (some b) none p2) pos) (trE z W r (.op (.sl false true) (.cons ma (.cons mb .nil)))) :=
  PE.imp (pe_slice or_sl ha po_none (po_some hb)) fun σ H K h => trE.mono (two_in (op_in h)) fun x H1 h1 => trE.mono h1 fun y H2 ⟨F, ds, w, l, e, rd, f⟩ => by
    obtain ⟨d, e', rfl, g1, g2⟩ := rds2 rd
    cases d <;> try (simp [evalOp] at e; done)
    · cases e' <;> try (simp [evalOp] at e; done)
      cases e
      exact ⟨_, rInt g2, sl_tup1 l g1 f⟩
    · cases e' <;> try (simp [evalOp] at e; done)
      cases e
      exact ⟨_, rInt g2, sl_lst l g1 f⟩
theorem je_sl00 (ha : PE X a (trE z W r ma)) {p2} : PE X (.Subscript a (.Slice none none none p2) pos) (trE z W r (.op (.sl false false) (.cons ma .nil))) :=
  PE.imp (pe_slice or_sl ha po_none po_none) fun σ H K h => trE.mono (one_in (op_in h)) fun x H1 ⟨F, ds, w, l, e, rd, f⟩ => by
    obtain ⟨d, rfl, g1⟩ := rds1 rd
    cases d <;> try (simp [evalOp] at e; done)
    · cases e
      exact sl_tup1 l g1 f
    · cases e
      exact sl_lst l g1 f
theorem je_rev (ha : PE X a (trE z W r ma)) {k : Nat} {p1 p2 p3 : Pos} : PE X (.Subscript a (.Slice none none (some (.UnaryOp .USub (.Constant (.int 1) k p1) p2)) p3) pos) (trE z W r (.op .rev (.cons ma .nil))) :=
  PE.imp (pe_revL ha) fun σ H K h => trE.mono (one_in (op_in h)) fun x H1 ⟨F, ds, w, l, e, rd, f⟩ => by
    obtain ⟨d, rfl, g1⟩ := rds1 rd
    cases d <;> try (simp [evalOp] at e; done)
    cases e
    obtain ⟨a', vs, rfl, ha', ra⟩ := g1
    exact ⟨a', vs, rfl, SqL.of ha', fun p hp => f p _ hp ra.reverse⟩

/-! ### is None, is True -/
theorem je_isN {j p2} (ha : PE X a (trE z W r ma)) : PE X (.Compare a [.Is] [.Constant .none j p2] pos) (trE z W r (.op .isN (.cons ma .nil))) :=
  PE.imp (pe_cmp (pc_isN ha) rfl) fun σ H K h => trE.mono (one_in (op_in h)) fun x H1 ⟨F, ds, w, l, e, rd, f⟩ => by
    obtain ⟨d, rfl, g1⟩ := rds1 rd
    cases e
    rw [← non_iff g1]
    exact f.leaf l pBl
theorem je_notN {j p2} (ha : PE X a (trE z W r ma)) : PE X (.Compare a [.IsNot] [.Constant .none j p2] pos) (trE z W r (.op .notN (.cons ma .nil))) :=
  PE.imp (pe_cmp (pc_notN ha) rfl) fun σ H K h => trE.mono (one_in (op_in h)) fun x H1 ⟨F, ds, w, l, e, rd, f⟩ => by
    obtain ⟨d, rfl, g1⟩ := rds1 rd
    cases e
    rw [← non_iff g1]
    exact f.leaf l pBl
/-- a comparison of one operand with a constant, as a test -/
theorem jt_one {op : CmpOp} {o : Op} {t : TE} (h : PC X op a b t) (hm : behindInMarks op b = false) (hb : ∀ d w, evalOp o [d] = some w → ∃ k, w = .val (.bl k))
    (hp : ∀ σ H K, trE z W r (.op o (.cons ma .nil)) σ H K → t σ H K) : PT X (.Compare a [op] [b] pos) (trT z W r (.op o (.cons ma .nil))) := by
  refine PT.imp (pt_cmp h hm) fun σ H K q => hp σ H _ ?_
  obtain ⟨F, O, env, rel, w⟩ := q
  refine ⟨F, O, env, rel, ?_⟩
  have hd : denT r (.op o (.cons ma .nil)) env = test1 (denE r (.op o (.cons ma .nil)) env) := denT_plain r rfl env
  rw [hd] at w
  refine wX.bind w fun q env1 F1 H1 O1 ex s1 r1 w1 => ?_
  intro v t hq ft
  have hv : ∃ k, q = .mv (.val (.bl k)) := by
    rw [denE_op] at ex
    cases e1 : denEs r (.cons ma .nil) env with
    | stuck => rw [e1] at ex; cases ex
    | exc c d e => rw [e1] at ex; cases ex
    | ok p =>
      obtain ⟨qs, e2⟩ := p
      rw [e1] at ex
      simp only [R.bind] at ex
      cases e3 : gets e2 qs with
      | none => rw [e3] at ex; cases ex
      | some ds =>
        rw [e3] at ex
        dsimp only at ex
        cases e4 : evalOp o ds with
        | none => rw [e4] at ex; cases ex
        | some wz =>
          rw [e4] at ex
          have l1 : ∃ q1, qs = [q1] := by
            rw [denEs] at e1
            cases f1 : denG r ma false env with
            | stuck => rw [f1] at e1; cases e1
            | exc c d e => rw [f1] at e1; cases e1
            | ok p1 =>
              obtain ⟨q1, e5⟩ := p1
              rw [f1] at e1
              simp only [R.bind] at e1
              rw [denEs] at e1
              cases e1
              exact ⟨q1, rfl⟩
          obtain ⟨q1, rfl⟩ := l1
          simp only [gets] at e3
          cases g1 : q1.get e2 with
          | none => rw [g1] at e3; cases e3
          | some d1 =>
            rw [g1] at e3
            cases e3
            obtain ⟨k, rfl⟩ := hb d1 wz e4
            cases ex
            exact ⟨k, rfl⟩
  obtain ⟨k, rfl⟩ := hv
  refine ⟨k, bool_v hq rfl, ?_⟩
  simp only [Q.get, truth] at w1
  exact w1 F1 H1 O1 (Step.refl _ _ _) r1
theorem isN_in {σ : St} {H : Hp} {K : VK} (h : trE z W r (.op .isN (.cons ma .nil)) σ H K) : tIsN (trE z W r ma) σ H K := trE.mono (one_in (op_in h)) fun x H1 ⟨F, ds, w, l, e, rd, f⟩ => by
    obtain ⟨d, rfl, g1⟩ := rds1 rd
    cases e
    rw [← non_iff g1]
    exact f.leaf l pBl
theorem notN_in {σ : St} {H : Hp} {K : VK} (h : trE z W r (.op .notN (.cons ma .nil)) σ H K) : tNotN (trE z W r ma) σ H K := trE.mono (one_in (op_in h)) fun x H1 ⟨F, ds, w, l, e, rd, f⟩ => by
    obtain ⟨d, rfl, g1⟩ := rds1 rd
    cases e
    rw [← non_iff g1]
    exact f.leaf l pBl
theorem jt_isN {j p2} (ha : PE X a (trE z W r ma)) : PT X (.Compare a [.Is] [.Constant .none j p2] pos) (trT z W r (.op .isN (.cons ma .nil))) :=
  jt_one (pc_isN ha) rfl (fun d w e => by cases e; exact ⟨_, rfl⟩) fun _ _ _ h => isN_in h
theorem jt_notN {j p2} (ha : PE X a (trE z W r ma)) : PT X (.Compare a [.IsNot] [.Constant .none j p2] pos) (trT z W r (.op .notN (.cons ma .nil))) :=
  jt_one (pc_notN ha) rfl (fun d w e => by cases e; exact ⟨_, rfl⟩) fun _ _ _ h => notN_in h
def tIsB (bb : Bool) (ta : TE) : TE := fun σ H Q => ta σ H fun x H1 => ∃ c, x = .bl c ∧ Q (.bl (bb == c)) H1
def tNotB (bb : Bool) (ta : TE) : TE := fun σ H Q => ta σ H fun x H1 => ∃ c, x = .bl c ∧ Q (.bl (bb != c)) H1
theorem pc_of {op : CmpOp} {r2 : R2} {ta tb : TE} (ho : OpR X (compareOp op) r2) (ha : PE X a ta) (hb : PE X b tb) : PC X op a b (tOp r2 ta tb) := ⟨fun pins s σ H Q I h => bin ha hb I h fun v u s2 x y H2 I2 rx ry q => ho pins s2 σ H2 x y v u Q I2 rx ry q⟩
theorem isB_in {bb : Bool} {σ : St} {H : Hp} {K : VK} (h : trE z W r (.op (.isB bb) (.cons ma .nil)) σ H K) : tOp rIsB (trE z W r ma) (tC (.bl bb)) σ H K := trE.mono (one_in (op_in h)) fun x H1 ⟨F, ds, w, l, e, rd, f⟩ => by
    obtain ⟨d, rfl, g1⟩ := rds1 rd
    cases d <;> simp [evalOp] at e
    subst e
    rw [rBl g1]
    refine ⟨_, bb, rfl, rfl, ?_⟩
    have q := f.leaf l pBl
    rename_i c
    have e2 : decide (c = bb) = (bb == c) := by cases bb <;> cases c <;> rfl
    rw [e2]; exact q
theorem notB_in {bb : Bool} {σ : St} {H : Hp} {K : VK} (h : trE z W r (.op (.notB bb) (.cons ma .nil)) σ H K) : tOp rNotB (trE z W r ma) (tC (.bl bb)) σ H K := trE.mono (one_in (op_in h)) fun x H1 ⟨F, ds, w, l, e, rd, f⟩ => by
    obtain ⟨d, rfl, g1⟩ := rds1 rd
    cases d <;> simp [evalOp] at e
    subst e
    rw [rBl g1]
    refine ⟨_, bb, rfl, rfl, ?_⟩
    have q := f.leaf l pBl
    rename_i c
    have e2 : (!decide (c = bb)) = (bb != c) := by cases bb <;> cases c <;> rfl
    rw [e2]; exact q
theorem je_isB {bb : Bool} {j p2} (ha : PE X a (trE z W r ma)) : PE X (.Compare a [.Is] [.Constant (.bool bb) j p2] pos) (trE z W r (.op (.isB bb) (.cons ma .nil))) := PE.imp (pe_cmpR op_isBl ha pe_bl rfl) fun _ _ _ h => isB_in h
theorem je_notB {bb : Bool} {j p2} (ha : PE X a (trE z W r ma)) : PE X (.Compare a [.IsNot] [.Constant (.bool bb) j p2] pos) (trE z W r (.op (.notB bb) (.cons ma .nil))) := PE.imp (pe_cmpR op_notBl ha pe_bl rfl) fun _ _ _ h => notB_in h
theorem jt_isB {bb : Bool} {j p2} (ha : PE X a (trE z W r ma)) : PT X (.Compare a [.Is] [.Constant (.bool bb) j p2] pos) (trT z W r (.op (.isB bb) (.cons ma .nil))) :=
  jt_one (pc_of op_isBl ha pe_bl) rfl (fun d w e => by cases d <;> simp [evalOp] at e; exact ⟨_, e.symm⟩) fun _ _ _ h => isB_in h
theorem jt_notB {bb : Bool} {j p2} (ha : PE X a (trE z W r ma)) : PT X (.Compare a [.IsNot] [.Constant (.bool bb) j p2] pos) (trT z W r (.op (.notB bb) (.cons ma .nil))) :=
  jt_one (pc_of op_notBl ha pe_bl) rfl (fun d w e => by cases d <;> simp [evalOp] at e; exact ⟨_, e.symm⟩) fun _ _ _ h => notB_in h

/-! ### built-in functions -/
theorem je_call1 {o : Op} {r1 : List V → Hp → VK → Prop} {x : Str} {id : String} {p : Pos} (hc : CallR X (.builtin id) r1) (sp : Sp1 o r1) (hg : Gl X x) (hm : X.mg x = none) (hv : bootBuiltins x = some (.builtin id)) (ha : PE X a (trE z W r ma))
    (hn : x ≠ "__name__" := by decide) (hdb : (x == ("__debug__" : Str)) = false := by decide) (he : starEach [a] X.env = (false, eval a X.env) :: starEach [] X.env := by rfl) : PE X (.Call (.Name x p) [a] [] pos) (trE z W r (.op o (.cons ma .nil))) :=
  PE.imp (pe_callB hc hg hm hv (pa_cons ha pa_nil he) hn hdb he rfl) fun σ H K h => op1_in (r1 := fun x H Q => r1 [x] H Q) (fun F H d x w K l e q f => sp F H d x w K l e q f) h
theorem je_ty1 {o : Op} {r1 : List V → Hp → VK → Prop} {x : Str} {T : String} {p : Pos} (hc : CallR X (.type T) r1) (sp : Sp1 o r1) (hg : Gl X x) (hm : X.mg x = none) (hv : bootBuiltins x = some (.type T)) (ha : PE X a (trE z W r ma))
    (hn : x ≠ "__name__" := by decide) (hdb : (x == ("__debug__" : Str)) = false := by decide) (he : starEach [a] X.env = (false, eval a X.env) :: starEach [] X.env := by rfl) : PE X (.Call (.Name x p) [a] [] pos) (trE z W r (.op o (.cons ma .nil))) :=
  PE.imp (pe_callTy hc hg hm hv (pa_cons ha pa_nil he) hn hdb he rfl) fun σ H K h => op1_in (r1 := fun x H Q => r1 [x] H Q) (fun F H d x w K l e q f => sp F H d x w K l e q f) h
theorem je_call2 {o : Op} {r1 : List V → Hp → VK → Prop} {x : Str} {id : String} {p : Pos} (hc : CallR X (.builtin id) r1) (sp : Sp1b o r1) (hg : Gl X x) (hm : X.mg x = none) (hv : bootBuiltins x = some (.builtin id)) (ha : PE X a (trE z W r ma)) (hb : PE X b (trE z W r mb))
    (hn : x ≠ "__name__" := by decide) (hdb : (x == ("__debug__" : Str)) = false := by decide) (he : starEach [a, b] X.env = (false, eval a X.env) :: starEach [b] X.env := by rfl) (he2 : starEach [b] X.env = (false, eval b X.env) :: starEach [] X.env := by rfl)
    (hpl : (backTo pos (starEach [b] X.env)).any (·.1) = false := by rfl) : PE X (.Call (.Name x p) [a, b] [] pos) (trE z W r (.op o (.cons ma (.cons mb .nil)))) :=
  PE.imp (pe_callB hc hg hm hv (pa_cons ha (pa_cons hb pa_nil he2) he) hn hdb he hpl) fun σ H K h => trE.mono (two_in (op_in h)) fun x H1 h1 => trE.mono h1 fun y H2 ⟨F, ds, w, l, e, rd, f⟩ => by
    obtain ⟨d, e', rfl, g1, g2⟩ := rds2 rd
    exact sp F H2 d e' x y w K l e g1 g2 f

/-! ### isinstance -/
def tyName : Ty → String
  | .tInt => "int" | .tBool => "bool" | .tStr => "str" | .tList => "list" | .tTuple => "tuple" | .tSeq => "" | .tIns _ => ""
def typeOfD : D → String
  | .non => "NoneType" | .bl _ => "bool" | .int _ => "int" | .str _ => "str" | .tup _ => "tuple" | .lst _ => "list" | .ins _ _ => ""
theorem ty_of {K : PySem.W.Frag} {F H : Hp} {d : D} {x : V} (l : Le F H) (h : Rd1 F H d x) : TyX K H x (.type (typeOfD d)) := by
  cases d with
  | non => rw [rNon h]; exact .base .non
  | bl b => rw [rBl h]; exact .base (.bl b)
  | int b => rw [rInt h]; exact .base (.int b)
  | str b => rw [rStr h]; exact .base (.str b)
  | tup b => obtain ⟨a, vs, rfl, ha, _⟩ := h.tup; exact .base (.tup (l _ _ ha))
  | lst b => obtain ⟨a, vs, rfl, ha, _⟩ := h; exact .base (.lst ha)
  | ins a b => exact absurd (show Rep F (.ins a b) x from h) (by simp [Rep])
theorem kit_one {K : PySem.W.Frag} {F H : Hp} {d : D} {x : V} {t : Ty} (h : Rd1 F H d x) (ht : t ≠ .tSeq) (ht2 : ∀ c, t ≠ .tIns c) : PySem.W.kitOne K (.type (typeOfD d)) (.type (tyName t)) = some (isa d t) := by
  cases t with
  | tSeq => exact absurd rfl ht
  | tIns c => exact absurd rfl (ht2 c)
  | _ =>
    cases d with
    | ins a b => exact absurd (show Rep F (.ins a b) x from h) (by simp [Rep])
    | _ => (simp only [typeOfD, tyName, isa]; exact kit_ty (by decide +kernel))
theorem je_isa {t : Ty} {T : Str} {p p2 : Pos} (ht : t ≠ .tSeq := by decide) (ht2 : ∀ c, t ≠ .tIns c := by intro c h; cases h) (hg : Gl X "isinstance") (hm : X.mg "isinstance" = none) (hg2 : Gl X T) (hm2 : X.mg T = none) (hv2 : bootBuiltins T = some (.type (tyName t)))
    (ha : PE X a (trE z W r ma)) (hn : T ≠ "__name__" := by decide) (hdb : (T == ("__debug__" : Str)) = false := by decide)
    (he : starEach [a, .Name T p2] X.env = (false, eval a X.env) :: starEach [.Name T p2] X.env := by rfl) (hpl : (backTo pos (starEach [.Name T p2] X.env)).any (·.1) = false := by rfl) :
    PE X (.Call (.Name "isinstance" p) [a, .Name T p2] [] pos) (trE z W r (.op (.isa t) (.cons ma .nil))) := by
  have hb : PE X (.Name T p2) (tC (.ty (tyName t))) := pe_bltn hg2 hm2 hv2 rfl hn hdb
  refine PE.imp (pe_callB call_isi hg hm (by decide +kernel) (pa_cons ha (pa_cons hb pa_nil rfl) he) (by decide) (by decide) he hpl) fun σ H K h => trE.mono (one_in (op_in h)) fun x H1 ⟨F, ds, w, l, e, rd, f⟩ => ?_
  obtain ⟨d, rfl, g1⟩ := rds1 rd
  cases e
  exact ⟨x, _, _, _, _, rfl, .ty _, ty_of l g1, kit_one g1 ht ht2, f.leaf l pBl⟩
theorem je_isaSeq {p p2 p3 pt : Pos} {kt} (hg : Gl X "isinstance") (hm : X.mg "isinstance" = none) (hgl : Gl X "list") (hml : X.mg "list" = none) (hgt : Gl X "tuple") (hmt : X.mg "tuple" = none)
    (ha : PE X a (trE z W r ma)) (he : starEach [a, .Tuple [.Name "list" p2, .Name "tuple" p3] kt pt] X.env = (false, eval a X.env) :: starEach [.Tuple [.Name "list" p2, .Name "tuple" p3] kt pt] X.env := by rfl) :
    PE X (.Call (.Name "isinstance" p) [a, .Tuple [.Name "list" p2, .Name "tuple" p3] kt pt] [] pos) (trE z W r (.op (.isa .tSeq) (.cons ma .nil))) := by
  have hb1 : PE X (.Name "list" p2) (tC (.ty "list")) := pe_bltn hgl hml (by decide +kernel) rfl
  have hb2 : PE X (.Name "tuple" p3) (tC (.ty "tuple")) := pe_bltn hgt hmt (by decide +kernel) rfl
  refine PE.imp (pe_callB call_isiT hg hm (by decide +kernel) (pa_cons ha (pa_cons (pe_tup (pa_cons hb1 (pa_cons hb2 pa_nil rfl) rfl)) pa_nil rfl) he) (by decide) (by decide) he rfl) fun σ H K h => trE.mono (one_in (op_in h)) fun x H1 ⟨F, ds, w, l, e, rd, f⟩ => ?_
  obtain ⟨d, rfl, g1⟩ := rds1 rd
  cases e
  refine ⟨by show 2 ≤ sizeLine; decide, fun q hq => ?_⟩
  have lq : Le F (upd H1 q (.tup [.ty "list", .ty "tuple"])) := l.trans (le_upd hq _)
  have g2 : Rd1 F (upd H1 q (.tup [.ty "list", .ty "tuple"])) d x := by
    cases d with
    | lst b => obtain ⟨a', vs, e1, ha', ra⟩ := g1; exact ⟨a', vs, e1, le_upd hq _ _ _ ha', ra⟩
    | _ => exact g1
  refine ⟨x, q, _, _, [.type "list", .type "tuple"], isa d .tSeq, rfl, upd_same, .cons (.ty _) (.cons (.ty _) .nil), ty_of lq g2, ?_, ?_⟩
  · have k1 : PySem.W.kitOne X.K (.type (typeOfD d)) (.type "list") = some (isa d .tList) := kit_one (t := .tList) g1 (by decide) (by intro c h; cases h)
    have k2 : PySem.W.kitOne X.K (.type (typeOfD d)) (.type "tuple") = some (isa d .tTuple) := kit_one (t := .tTuple) g1 (by decide) (by intro c h; cases h)
    refine kitAny_cons k1 (fun h1 => kitAny_cons k2 (fun h2 => ?_) (fun h2 => ?_)) (fun h1 => ?_)
    · rw [kitAny_nil]
      cases d <;> simp_all [isa]
    · cases d <;> simp_all [isa]
    · cases d <;> simp_all [isa]
  · exact f _ F _ (Le.refl F) (le_upd hq _) lq (fun _ _ h => .inl h) pBl

/-! ### list(range(n)), tuple(range(n)) -/
theorem rng_reps {F : Hp} (n : Nat) : Reps F (rangeL n) ((List.range n).map fun i => V.int (0 + (i : Nat))) := by
  have : ∀ (l : List Nat), Reps F (l.map fun (k : Nat) => D.int (k : Int)) (l.map fun i => V.int (0 + (i : Nat))) := by
    intro l
    induction l with
    | nil => exact Reps.nil
    | cons k l ih => exact Reps.cons (by simp [Rep]) ih
  exact this _
theorem je_rng {p p2 pos2 : Pos} (hc : X.calm = true) (hg : Gl X "list") (hm : X.mg "list" = none) (hg2 : Gl X "range") (hm2 : X.mg "range" = none) (ha : PE X a (trE z W r ma))
    (na : starEach [a] X.env = (false, eval a X.env) :: starEach [] X.env := by rfl) : PE X (.Call (.Name "list" p) [.Call (.Name "range" p2) [a] [] pos2] [] pos) (trE z W r (.op .rng (.cons ma .nil))) := by
  refine PE.imp (pe_listRg hc hg hm (prg_1 hg2 hm2 ha na) rfl) fun σ H K h => trE.mono (one_in (op_in h)) fun x H1 ⟨F, ds, w, l, e, rd, f⟩ => ?_
  obtain ⟨d, rfl, g1⟩ := rds1 rd
  cases d <;> try (simp [evalOp] at e; done)
  rename_i n
  simp only [evalOp] at e
  split at e
  · rename_i hb
    cases e
    refine ⟨n, rInt g1, ?_, fun q hq => ?_⟩
    · have e1 := maxLen_eq
      rw [sizeLine_eq] at e1
      refine ⟨by omega, by omega, by omega, by omega, by omega⟩
    · refine f q _ hq ?_
      have e2 : (n - 0).toNat = n.toNat := by rw [Int.sub_zero]
      unfold rgV
      rw [e2]
      exact rng_reps n.toNat
  · cases e
theorem je_trng {p p2 pos2 : Pos} (hc : X.calm = true) (hg : Gl X "tuple") (hm : X.mg "tuple" = none) (hg2 : Gl X "range") (hm2 : X.mg "range" = none) (ha : PE X a (trE z W r ma))
    (na : starEach [a] X.env = (false, eval a X.env) :: starEach [] X.env := by rfl) : PE X (.Call (.Name "tuple" p) [.Call (.Name "range" p2) [a] [] pos2] [] pos) (trE z W r (.op .trng (.cons ma .nil))) := by
  refine PE.imp (pe_tupRg hc hg hm (prg_1 hg2 hm2 ha na) rfl) fun σ H K h => trE.mono (one_in (op_in h)) fun x H1 ⟨F, ds, w, l, e, rd, f⟩ => ?_
  obtain ⟨d, rfl, g1⟩ := rds1 rd
  cases d <;> try (simp [evalOp] at e; done)
  rename_i n
  simp only [evalOp] at e
  split at e
  · rename_i hb
    cases e
    refine ⟨n, rInt g1, ?_, fun q hq => ?_⟩
    · have e1 := maxLen_eq
      rw [sizeLine_eq] at e1
      refine ⟨by omega, by omega, by omega, by omega, by omega⟩
    · refine f.tup l ?_ q hq
      have e2 : (n - 0).toNat = n.toNat := by rw [Int.sub_zero]
      unfold rgV
      rw [e2]
      exact rng_reps n.toNat
  · cases e
end
end Rx

/-! RxCall -/
/-! RxCall: what a def promises, and the call of one. -/
set_option linter.all false
set_option Elab.async false
set_option maxRecDepth 100000
set_option maxHeartbeats 4000000
namespace Rx
open PySem L2

/-- the slots' own lists, slot by slot -/
structure Own (z : Cz) (F H : Hp) (env : Env) (σ : St) (A : Nat → List Addr) : Prop where
  len : σ.length = env.length
  at_ : ∀ i m, slot i env = some m → ∃ v, σ[i]? = some (some v) ∧ RM F H z.xa z.xd m v (A i)
  non : ∀ i, slot i env = none → A i = []
  one : ∀ i j a, a ∈ A i → a ∈ A j → i = j
  nd : ∀ i, (A i).Nodup

theorem RSs.fn {F H : Hp} {xa xd : Addr} : ∀ {env : Env} {σ : St} {O : List Addr}, RSs F H xa xd env σ O → O.Nodup → ∃ A : Nat → List Addr,
    (∀ i m, slot i env = some m → ∃ v, σ[i]? = some (some v) ∧ RM F H xa xd m v (A i)) ∧ (∀ i, slot i env = none → A i = []) ∧ (∀ i j a, a ∈ A i → a ∈ A j → i = j) ∧ (∀ i, (A i).Nodup) ∧ ∀ a, a ∈ O ↔ ∃ i, a ∈ A i
  | [], σ, O, h, nd => ⟨fun _ => [], fun i m e => by simp [slot] at e, fun _ _ => rfl, fun _ _ _ h => (nomatch h), fun _ => List.nodup_nil, fun a => by rw [h.2]; simp⟩
  | m :: env, σ, O, h, nd => by
    obtain ⟨o, r, x, y, e1, e2, h1, h2⟩ := h
    subst e1 e2
    obtain ⟨nx, ny, dj⟩ := List.nodup_append.mp nd
    obtain ⟨A, a1, a2, a3, a4, a5⟩ := RSs.fn h2 ny
    refine ⟨fun i => match i with | 0 => x | i + 1 => A i, fun i m' e => ?_, fun i e => ?_, fun i j a hi hj => ?_, fun i => ?_, fun a => ?_⟩
    · cases i with
      | zero =>
        have : m = some m' := by simpa [slot] using e
        subst this
        obtain ⟨v, e3, h3⟩ := h1
        exact ⟨v, by simp [e3], h3⟩
      | succ i => simpa using a1 i m' (by simpa [slot] using e)
    · cases i with
      | zero =>
        have : m = none := by simpa [slot] using e
        subst this
        exact h1
      | succ i => exact a2 i (by simpa [slot] using e)
    · cases i with
      | zero =>
        cases j with
        | zero => rfl
        | succ j => exact absurd rfl (dj a hi a ((a5 a).mpr ⟨j, hj⟩))
      | succ i =>
        cases j with
        | zero => exact absurd rfl (dj a hj a ((a5 a).mpr ⟨i, hi⟩))
        | succ j => rw [a3 i j a hi hj]
    · cases i with
      | zero => exact nx
      | succ i => exact a4 i
    · constructor
      · intro ha
        rcases List.mem_append.mp ha with q | q
        · exact ⟨0, q⟩
        · obtain ⟨i, q⟩ := (a5 a).mp q
          exact ⟨i + 1, q⟩
      · rintro ⟨i, q⟩
        cases i with
        | zero => exact List.mem_append_left _ q
        | succ i => exact List.mem_append_right _ ((a5 a).mpr ⟨i, q⟩)
theorem Rel.own {z : Cz} {F H : Hp} {env : Env} {σ : St} {O : List Addr} (rel : z.Rel F H env σ O) : ∃ A, Own z F H env σ A ∧ ∀ a, a ∈ O ↔ ∃ i, a ∈ A i := by
  obtain ⟨A, a1, a2, a3, a4, a5⟩ := RSs.fn rel.ss rel.nd
  exact ⟨A, ⟨rel.ss.len, a1, a2, a3, a4⟩, a5⟩

/-- the lists of all slots from n on -/
def gather (A : Nat → List Addr) : Nat → Nat → List Addr
  | _, 0 => []
  | i, k + 1 => A i ++ gather A (i + 1) k
theorem gather_mem {A : Nat → List Addr} {a : Addr} : ∀ {k i : Nat}, a ∈ gather A i k ↔ ∃ j, i ≤ j ∧ j < i + k ∧ a ∈ A j
  | 0, i => by
    constructor
    · intro h; cases h
    · rintro ⟨j, h1, h2, _⟩; omega
  | k + 1, i => by
    unfold gather
    rw [List.mem_append, gather_mem]
    constructor
    · rintro (h | ⟨j, h1, h2, h3⟩)
      · exact ⟨i, Nat.le_refl _, by omega, h⟩
      · exact ⟨j, by omega, by omega, h3⟩
    · rintro ⟨j, h1, h2, h3⟩
      by_cases e : j = i
      · subst e; exact .inl h3
      · exact .inr ⟨j, by omega, by omega, h3⟩
theorem gather_nodup {A : Nat → List Addr} (one : ∀ i j a, a ∈ A i → a ∈ A j → i = j) (nd : ∀ i, (A i).Nodup) : ∀ (k i : Nat), (gather A i k).Nodup
  | 0, _ => List.nodup_nil
  | k + 1, i => by
    unfold gather
    refine List.nodup_append.mpr ⟨nd i, gather_nodup one nd k (i + 1), fun a ha b hb e => ?_⟩
    subst e
    obtain ⟨j, h1, _, h3⟩ := gather_mem.mp hb
    have := one i j a ha h3
    omega
theorem RSs.ofFn {F H : Hp} {xa xd : Addr} (A : Nat → List Addr) : ∀ (env : Env) (σ : St) (n : Nat), σ.length = env.length →
    (∀ i m, slot i env = some m → ∃ v, σ[i]? = some (some v) ∧ RM F H xa xd m v (A (n + i))) → (∀ i, slot i env = none → A (n + i) = []) → RSs F H xa xd env σ (gather A n env.length)
  | [], σ, n, hl, _, _ => ⟨List.length_eq_zero_iff.mp hl, rfl⟩
  | m :: env, [], n, hl, _, _ => by simp at hl
  | m :: env, o :: σ, n, hl, h1, h2 => by
    refine ⟨o, σ, A n, gather A (n + 1) env.length, rfl, rfl, ?_, RSs.ofFn A env σ (n + 1) (by simpa using hl) (fun i m' e => ?_) fun i e => ?_⟩
    · cases m with
      | none => exact h2 0 (by simp [slot])
      | some m =>
        obtain ⟨v, e, h⟩ := h1 0 m (by simp [slot])
        exact ⟨v, by simpa using e, h⟩
    · have := h1 (i + 1) m' (by simpa [slot] using e)
      rw [show n + 1 + i = n + (i + 1) by omega]
      simpa using this
    · have := h2 (i + 1) (by simpa [slot] using e)
      rw [show n + 1 + i = n + (i + 1) by omega]
      exact this
theorem Own.rel {z : Cz} {F H : Hp} {env : Env} {σ : St} {A : Nat → List Addr} (h : Own z F H env σ A) (l : Le F H) : ∃ O, z.Rel F H env σ O ∧ ∀ a, a ∈ O ↔ ∃ i, a ∈ A i := by
  refine ⟨gather A 0 env.length, ⟨l, RSs.ofFn A env σ 0 h.len (fun i m e => by rw [Nat.zero_add]; exact h.at_ i m e) (fun i e => by rw [Nat.zero_add]; exact h.non i e), gather_nodup h.one h.nd _ _⟩, fun a => ?_⟩
  rw [gather_mem]
  constructor
  · rintro ⟨j, _, _, q⟩; exact ⟨j, q⟩
  · rintro ⟨j, q⟩
    refine ⟨j, Nat.zero_le _, ?_, q⟩
    rw [Nat.zero_add]
    refine Nat.lt_of_not_le fun hj => ?_
    have e : slot j env = none := by
      unfold slot
      rw [List.getElem?_eq_none hj]
      rfl
    rw [h.non j e] at q
    cases q

/-! ### what a def promises -/
/-- arguments: each with the lists that are lent with it -/
def RAs (F H : Hp) : List M → List V → List (List Addr) → Prop
  | [], vs, Os => vs = [] ∧ Os = []
  | m :: ms, vs, Os => ∃ v r x y, vs = v :: r ∧ Os = x :: y ∧ RM F H 0 0 m v x ∧ RAs F H ms r y
def plainM : M → Bool
  | .val _ => true
  | .own false _ => true
  | .deal false _ _ => true
  | _ => false
def noEx : M → Bool
  | .ex _ _ => false
  | _ => true
theorem RM.any {F H : Hp} {xa xd xa' xd' : Addr} {m : M} {v : V} {t : List Addr} (h : RM F H xa xd m v t) (n : noEx m = true) : RM F H xa' xd' m v t := by
  cases m with
  | ex c d => simp [noEx] at n
  | val d => exact h
  | own io xs => exact h
  | deal io b n => exact h
theorem lent_noEx {m : M} (h : lentOk m = true) : noEx m = true := by cases m <;> simp_all [lentOk, noEx]
theorem plain_noEx {m : M} (h : plainM m = true) : noEx m = true := by cases m <;> simp_all [plainM, noEx]
/-- a def that is worth φ -/
def spM (cl : Nat → Addr) (φ : List M → RF) : Sp := fun vs H K E => ∃ F ms Os, Le F H ∧ RAs F H ms vs Os ∧ Os.flatten.Nodup ∧ ms.all lentOk = true ∧ (match φ ms with
  | .ok m ms' => plainM m = true ∧ ∀ v F' H' Os' t, Step F H Os.flatten F' H' Os'.flatten → Le F' H' → RAs F' H' ms' vs Os' → Os'.flatten.Nodup → RM F' H' 0 0 m v t → Fresh H Os'.flatten t → K v H'
  | .exc c d => ∀ F' H' Os' dx v, Step F H Os.flatten F' H' Os' → Le F' H' → Rep F' d v → H' dx = some (.xd [(atK, v)]) → E (.ref (cl c)) (some dx) H'
  | .stuck => False)
theorem RAs.len {F H : Hp} : ∀ {ms : List M} {vs : List V} {Os : List (List Addr)}, RAs F H ms vs Os → vs.length = ms.length
  | [], _, _, h => by rw [h.1]; rfl
  | m :: ms, _, _, h => by
    obtain ⟨v, r, x, y, e, _, _, h2⟩ := h
    rw [e, List.length_cons, List.length_cons, RAs.len h2]

theorem RQs.lst {z : Cz} {F H : Hp} {σ : St} : ∀ {qs : List Q} {vs : List V} {t : List Addr}, RQs z F H σ qs vs t → ∀ a ∈ t, (∃ vs, H a = some (.lst vs)) ∧ F a = none
  | [], _, _, h, a, ha => by rw [h.2] at ha; cases ha
  | q :: qs, _, _, h, a, ha => by
    obtain ⟨v, r, x, y, e1, e2, g1, g2⟩ := h
    subst e2
    rcases List.mem_append.mp ha with u | u
    · exact RQ.lst g1 a u
    · exact RQs.lst g2 a u
theorem RAs.stay {F H F' H' : Hp} {O O' : List Addr} (s : Step F H O F' H' O') (hO : ∀ a ∈ O, ∃ vs, H a = some (.lst vs)) : ∀ {ms : List M} {vs : List V} {Os : List (List Addr)}, RAs F H ms vs Os → (∀ a ∈ Os.flatten, a ∉ O) → RAs F' H' ms vs Os
  | [], _, _, h, _ => h
  | m :: ms, _, _, h, n => by
    obtain ⟨v, r, x, y, e1, e2, g1, g2⟩ := h
    subst e1 e2
    exact ⟨v, r, x, y, rfl, rfl, RM.stay s hO g1 fun a ha => n a (by simp [ha]), RAs.stay s hO g2 fun a ha => n a (by rw [List.flatten_cons]; exact List.mem_append_right _ ha)⟩

/-! ### what is lent -/
theorem lend_in {z : Cz} {F H0 H : Hp} {env : Env} {σ : St} {O : List Addr} {A : Nat → List Addr} (l0 : Le F H) (own : Own z F H env σ A) :
    ∀ {qs : List Q} {vs : List V} {t : List Addr} {ms : List M}, lend env qs = some ms → RQs z F H σ qs vs t → t.Nodup → (∀ a ∈ t, (∀ i, a ∉ A i) ∧ H0 a = none) → (refs qs).Nodup →
    ∃ F' Os, Le F F' ∧ Le F' H ∧ (∀ a o, F' a = some o → F a = some o ∨ (a ∈ t ∧ H0 a = none)) ∧ RAs F' H ms vs Os ∧ Os.flatten.Nodup ∧ ms.all lentOk = true ∧
      (∀ a ∈ Os.flatten, ∃ i ∈ refs qs, a ∈ A i) ∧ (∀ i ∈ refs qs, ∀ a ∈ A i, a ∈ Os.flatten)
  | [], vs, t, ms, h, q, nt, ft, nr => by
    simp only [lend] at h
    cases h
    exact ⟨F, [], Le.refl F, l0, fun _ _ h => .inl h, ⟨q.1, rfl⟩, List.nodup_nil, rfl, fun _ h => (nomatch h), fun _ h => (nomatch h)⟩
  | .mv m :: qs, vs, t, ms, h, q, nt, ft, nr => by
    obtain ⟨v, r, x, y, e1, e2, g1, g2⟩ := q
    subst e1 e2
    obtain ⟨nx, ny, dj⟩ := List.nodup_append.mp nt
    cases m with
    | val d =>
      simp only [lend] at h
      obtain ⟨ms', h1, h2⟩ := Option.map_eq_some_iff.mp h
      subst h2
      obtain ⟨F', Os, a1, a2, a3, a4, a5, a6, a7, a8⟩ := lend_in (O := O) l0 own h1 g2 ny (fun a ha => ft a (List.mem_append_right _ ha)) nr
      exact ⟨F', [] :: Os, a1, a2, fun a o e => (a3 a o e).imp id fun ⟨u, w⟩ => ⟨List.mem_append_right _ u, w⟩, ⟨v, r, [], Os, rfl, rfl, ⟨rfl, g1.2.mono a1⟩, a4⟩, by simpa using a5, by simpa [lentOk] using a6, fun b hb => a7 b (by simpa using hb), fun i hi b hb => by simpa using a8 i hi b hb⟩
    | own io xs =>
      cases io with
      | true => simp [lend] at h
      | false =>
        simp only [lend] at h
        obtain ⟨ms', h1, h2⟩ := Option.map_eq_some_iff.mp h
        subst h2
        obtain ⟨F', Os, a1, a2, a3, a4, a5, a6, a7, a8⟩ := lend_in (O := O) l0 own h1 g2 ny (fun a ha => ft a (List.mem_append_right _ ha)) nr
        obtain ⟨a, ws, e1, e2, k1, k2, k3⟩ := g1
        subst e1 e2
        have fa : F' a = none := by
          cases e : F' a with
          | none => rfl
          | some o =>
            rcases a3 a o e with u | ⟨u, _⟩
            · rw [k2] at u; cases u
            · exact absurd rfl (dj a List.mem_cons_self a u)
        have lf : Le F' (upd F' a (.lst ws)) := le_upd fa _
        refine ⟨upd F' a (.lst ws), [] :: Os, a1.trans lf, fun b u q => ?_, fun b o q => ?_, ⟨.ref a, r, [], Os, rfl, rfl, ⟨rfl, ?_⟩, ?_⟩, by simpa using a5, by simpa [lentOk] using a6, fun b hb => a7 b (by simpa using hb), fun i hi b hb => by simpa using a8 i hi b hb⟩
        · by_cases e : b = a
          · subst e; rw [upd_same] at q; rw [k1]; exact q
          · rw [upd_ne e] at q; exact a2 _ _ q
        · by_cases e : b = a
          · subst e; exact .inr ⟨by simp, (ft b (by simp)).2⟩
          · rw [upd_ne e] at q; exact (a3 b o q).imp id fun ⟨u, w⟩ => ⟨List.mem_append_right _ u, w⟩
        · simp only [Rep]
          exact ⟨a, ws, rfl, upd_same, k3.mono (a1.trans lf)⟩
        · -- the lent lists stay: a is none of them
          have na : a ∉ Os.flatten := fun hm => by
            obtain ⟨i, _, u⟩ := a7 a hm
            exact (ft a (by simp)).1 i u
          have st : Step F' H [a] (upd F' a (.lst ws)) H [] := ⟨lf, fun b u q _ => q, fun b u q => by
              by_cases e : b = a
              · subst e; exact .inr (.inr List.mem_cons_self)
              · rw [upd_ne e] at q; exact .inl q, fun _ h => (nomatch h), fun b u q => ⟨u, q⟩⟩
          have ho : ∀ b ∈ [a], ∃ vs, H b = some (.lst vs) := fun b hb => by cases List.mem_singleton.mp hb; exact ⟨ws, k1⟩
          exact RAs.stay st ho a4 fun b hb e => by
            cases List.mem_singleton.mp e
            exact na hb
    | deal io b n => simp [lend] at h
    | ex c d => simp [lend] at h
  | .ref i :: qs, vs, t, ms, h, q, nt, ft, nr => by
    obtain ⟨v, r, x, y, e1, e2, g1, g2⟩ := q
    subst e1 e2
    obtain ⟨e3, g1⟩ := g1
    subst e3
    have nr' : i ∉ refs qs ∧ (refs qs).Nodup := List.nodup_cons.mp nr
    have ft' : ∀ a ∈ y, (∀ i, a ∉ A i) ∧ H0 a = none := fun a ha => ft a (by simpa using ha)
    simp only [lend] at h
    -- what the slot holds, lent
    have key : ∀ (m m' : M) (ms' : List M), slot i env = some m → noEx m = true → (∀ F' v t, RM F' H 0 0 m v t → RM F' H 0 0 m' v t) → lentOk m' = true → lend env qs = some ms' → ms = m' :: ms' →
        (∀ F' a, Le F F' → F a = none → a ∈ A i → F' a = none → True) →
        ∃ F' Os, Le F F' ∧ Le F' H ∧ (∀ a o, F' a = some o → F a = some o ∨ (a ∈ [] ++ y ∧ H0 a = none)) ∧ RAs F' H ms (v :: r) Os ∧ Os.flatten.Nodup ∧ ms.all lentOk = true ∧
          (∀ a ∈ Os.flatten, ∃ j ∈ refs (.ref i :: qs), a ∈ A j) ∧ (∀ j ∈ refs (.ref i :: qs), ∀ a ∈ A j, a ∈ Os.flatten) := by
      intro m m' ms' hs hx hm hl h1 he _
      obtain ⟨F', Os, a1, a2, a3, a4, a5, a6, a7, a8⟩ := lend_in (O := O) l0 own h1 g2 (by simpa using nt) ft' nr'.2
      obtain ⟨w, k1, k2⟩ := own.at_ i m hs
      rw [g1] at k1
      have ew : v = w := Option.some.inj (Option.some.inj k1)
      subst ew
      -- F' knows nothing of the slot's lists
      have k3 : RM F' H 0 0 m v (A i) := by
        have st : Step F H y F' H [] := ⟨a1, fun b u q _ => q, fun b o q => (a3 b o q).imp id fun ⟨u, _⟩ => .inr u, fun _ h => (nomatch h), fun b u q => ⟨u, q⟩⟩
        exact (RM.stay st (fun b hb => (RQs.lst g2 b hb).1) k2 fun b hb hy => (ft' b hy).1 i hb).any hx
      refine ⟨F', A i :: Os, a1, a2, fun a o e => (a3 a o e).imp id fun ⟨u, w⟩ => ⟨by simpa using u, w⟩, ?_, ?_, ?_, fun a ha => ?_, fun j hj a ha => ?_⟩
      · rw [he]; exact ⟨v, r, A i, Os, rfl, rfl, hm F' v _ k3, a4⟩
      · rw [List.flatten_cons]
        refine List.nodup_append.mpr ⟨own.nd i, a5, fun a ha b hb e => ?_⟩
        subst e
        obtain ⟨j, hj, u⟩ := a7 a hb
        have := own.one i j a ha u
        subst this
        exact nr'.1 hj
      · rw [he]; simp [hl, a6]
      · rw [List.flatten_cons] at ha
        rcases List.mem_append.mp ha with u | u
        · exact ⟨i, List.mem_cons_self, u⟩
        · obtain ⟨j, hj, w⟩ := a7 a u
          exact ⟨j, List.mem_cons_of_mem _ hj, w⟩
      · rw [List.flatten_cons]
        rcases List.mem_cons.mp hj with e | e
        · subst e; exact List.mem_append_left _ ha
        · exact List.mem_append_right _ (a8 j e a ha)
    cases hs : slot i env with
    | none => rw [hs] at h; cases h
    | some m =>
      rw [hs] at h
      cases m with
      | val d => cases h
      | ex c d => cases h
      | own io xs =>
        obtain ⟨ms', h1, h2⟩ := Option.map_eq_some_iff.mp h
        exact key _ (.own true xs) ms' hs rfl (fun _ _ _ h => h) rfl h1 h2.symm (fun _ _ _ _ _ _ => trivial)
      | deal io b n =>
        obtain ⟨ms', h1, h2⟩ := Option.map_eq_some_iff.mp h
        exact key _ (.deal true b n) ms' hs rfl (fun _ _ _ h => h) rfl h1 h2.symm (fun _ _ _ _ _ _ => trivial)

theorem relent_rm {F H : Hp} {m m' m2 : M} {v : V} {t : List Addr} {xa xd : Addr} (h : relent m m' = some m2) (g : RM F H 0 0 m' v t) : RM F H xa xd m2 v t := by
  cases m <;> cases m' <;> try (simp [relent] at h; done)
  · rename_i io xs io' ys
    cases io' with
    | false => simp [relent] at h
    | true => simp [relent] at h; subst h; exact g
  · rename_i io b n io' b' n'
    cases io' with
    | false => simp [relent] at h
    | true => simp [relent] at h; obtain ⟨_, h⟩ := h; subst h; exact g
/-- the slots behind the call: the lent ones by Os', the others as they were -/
theorem unlend_in {z : Cz} {F' H' : Hp} {σ : St} : ∀ {qs : List Q} {vs : List V} {t : List Addr} {ms' : List M} {Os' : List (List Addr)} {env env2 : Env} {F H : Hp},
    unlend qs ms' env = some env2 → RQs z F H σ qs vs t → RAs F' H' ms' vs Os' → (refs qs).Nodup →
    ∃ B : Nat → List Addr, env2.length = env.length ∧ (∀ i, i ∉ refs qs → slot i env2 = slot i env ∧ B i = []) ∧
      (∀ i ∈ refs qs, ∃ m v, slot i env2 = some m ∧ σ[i]? = some (some v) ∧ RM F' H' z.xa z.xd m v (B i)) ∧ (∀ i a, a ∈ B i → a ∈ Os'.flatten) ∧
      (Os'.flatten.Nodup → (∀ i j a, a ∈ B i → a ∈ B j → i = j) ∧ ∀ i, (B i).Nodup)
  | [], vs, t, ms', Os', env, env2, F, H, h, q, r, nd => by
    cases ms' with
    | cons m ms => simp [unlend] at h
    | nil =>
      simp [unlend] at h
      subst h
      exact ⟨fun _ => [], rfl, fun _ _ => ⟨rfl, rfl⟩, fun _ h => (nomatch h), fun _ _ h => (nomatch h), fun _ => ⟨fun _ _ _ h => (nomatch h), fun _ => List.nodup_nil⟩⟩
  | .mv m :: qs, vs, t, ms', Os', env, env2, F, H, h, q, r, nd => by
    obtain ⟨v, vr, x, y, e1, e2, g1, g2⟩ := q
    subst e1
    cases ms' with
    | nil => simp [unlend] at h
    | cons m' ms' =>
      simp only [unlend] at h
      obtain ⟨v', r', x', y', e3, e4, b1, b2⟩ := r
      cases e3
      subst e4
      obtain ⟨B, a1, a2, a3, a4, a5⟩ := unlend_in h g2 b2 nd
      exact ⟨B, a1, a2, a3, fun i a ha => by rw [List.flatten_cons]; exact List.mem_append_right _ (a4 i a ha), fun n => a5 (by rw [List.flatten_cons] at n; exact (List.nodup_append.mp n).2.1)⟩
  | .ref i :: qs, vs, t, ms', Os', env, env2, F, H, h, q, r, nd => by
    obtain ⟨v, vr, x, y, e1, e2, g1, g2⟩ := q
    subst e1
    obtain ⟨_, g1⟩ := g1
    obtain ⟨ni, nd'⟩ := List.nodup_cons.mp nd
    cases ms' with
    | nil => simp [unlend] at h
    | cons m' ms' =>
      simp only [unlend] at h
      obtain ⟨v', r', x', y', e3, e4, b1, b2⟩ := r
      cases e3
      subst e4
      cases hs : slot i env with
      | none => rw [hs] at h; cases h
      | some o =>
        rw [hs] at h
        dsimp only at h
        cases hr : relent o m' with
        | none => rw [hr] at h; cases h
        | some o' =>
          rw [hr] at h
          dsimp only at h
          obtain ⟨B, a1, a2, a3, a4, a5⟩ := unlend_in h g2 b2 nd'
          have hi : i < env.length := by
            have := slot_some hs
            exact (List.getElem?_eq_some_iff.mp this).1
          have s1 : slot i (env.set i (some o')) = some o' := by unfold slot; rw [List.getElem?_set_self hi]; rfl
          have s2 : ∀ j, j ≠ i → slot j (env.set i (some o')) = slot j env := fun j hj => by unfold slot; rw [List.getElem?_set_ne (Ne.symm hj)]
          refine ⟨fun j => if j = i then x' else B j, by rw [a1, List.length_set], fun j hj => ?_, fun j hj => ?_, fun j a ha => ?_, fun n => ?_⟩
          · have h1 : j ≠ i := fun e => hj (by subst e; exact List.mem_cons_self)
            have h2 : j ∉ refs qs := fun e => hj (List.mem_cons_of_mem _ e)
            obtain ⟨c1, c2⟩ := a2 j h2
            exact ⟨by rw [c1, s2 j h1], by (try dsimp only); rw [if_neg h1]; exact c2⟩
          · by_cases e : j = i
            · subst e
              obtain ⟨c1, _⟩ := a2 j ni
              exact ⟨o', v, by rw [c1, s1], g1, by (try dsimp only); rw [if_pos rfl]; exact relent_rm hr b1⟩
            · rcases List.mem_cons.mp hj with u | u
              · exact absurd u e
              · obtain ⟨m2, w, c1, c2, c3⟩ := a3 j u
                exact ⟨m2, w, c1, c2, by (try dsimp only); rw [if_neg e]; exact c3⟩
          · rw [List.flatten_cons]
            by_cases e : j = i
            · (try dsimp only at ha); rw [if_pos e] at ha; exact List.mem_append_left _ ha
            · (try dsimp only at ha); rw [if_neg e] at ha; exact List.mem_append_right _ (a4 j a ha)
          · rw [List.flatten_cons] at n
            obtain ⟨n1, n2, n3⟩ := List.nodup_append.mp n
            obtain ⟨c1, c2⟩ := a5 n2
            refine ⟨fun j k a hj hk => ?_, fun j => ?_⟩
            · by_cases ej : j = i
              · by_cases ek : k = i
                · rw [ej, ek]
                · (try dsimp only at hj); rw [if_pos ej] at hj; (try dsimp only at hk); rw [if_neg ek] at hk
                  exact absurd rfl (n3 a hj a (a4 k a hk))
              · by_cases ek : k = i
                · (try dsimp only at hj); rw [if_neg ej] at hj; (try dsimp only at hk); rw [if_pos ek] at hk
                  exact absurd rfl (n3 a hk a (a4 j a hj))
                · (try dsimp only at hj); rw [if_neg ej] at hj; (try dsimp only at hk); rw [if_neg ek] at hk
                  exact c1 j k a hj hk
            · by_cases ej : j = i
              · (try dsimp only); rw [if_pos ej]; exact n1
              · (try dsimp only); rw [if_neg ej]; exact c2 j

section
variable {X : Cx} {z : Cz} {W : WX} {r : Fs}
theorem none_rel {F H : Hp} {env : Env} {σ : St} {xa xd : Addr} (l : Le F H) (hl : σ.length = env.length) : Rx.Rel xa xd F H (env.map fun _ => none) σ [] := by
  refine ⟨l, ?_, List.nodup_nil⟩
  induction env generalizing σ with
  | nil => exact ⟨List.length_eq_zero_iff.mp hl, rfl⟩
  | cons m env ih =>
    cases σ with
    | nil => simp at hl
    | cons o σ => exact ⟨o, σ, [], [], rfl, rfl, rfl, ih (by simpa using hl)⟩
theorem call_in {f : Nat} {qs : List Q} {vs : List V} {env : Env} {σ : St} {F0 H0 F H : Hp} {O0 O t : List Addr} {K : VK} (s0 : Step F0 H0 O0 F H O) (rel : z.Rel F H env σ O) (hq : RQs z F H σ qs vs t) (ft : Fresh H0 O t)
    (w : wX z W (callF r f qs env) F0 H0 O0 σ fun q F' H' O' => ∀ v t, RQ z F' H' σ q v t → Fresh H0 O' t → K v H') : spM z.cl (r f) (vs ++ []) H K (WE W σ) := by
  rw [List.append_nil]
  unfold callF at w
  by_cases nr : (refs qs).Nodup
  · rw [if_pos nr] at w
    cases hl : lend env qs with
    | none => rw [hl] at w; exact w.elim
    | some ms =>
      rw [hl] at w
      dsimp only at w
      obtain ⟨A, own, hA⟩ := Rel.own rel
      obtain ⟨F1, Os, a1, a2, a3, a4, a5, a6, a7, a8⟩ := lend_in (O := O) rel.le own hl hq ft.1 (fun a ha => ⟨fun i hi => (ft.2 a ha).1 ((hA a).mpr ⟨i, hi⟩), (ft.2 a ha).2⟩) nr
      refine ⟨F1, ms, Os, a2, a4, a5, a6, ?_⟩
      -- what the slots hold, by F1
      have st1 : Step F H t F1 H [] := ⟨a1, fun b u q _ => q, fun b o q => (a3 b o q).imp id fun ⟨u, _⟩ => .inr u, fun _ h => (nomatch h), fun b u q => ⟨u, q⟩⟩
      have own1 : ∀ i m, slot i env = some m → ∃ v, σ[i]? = some (some v) ∧ RM F1 H z.xa z.xd m v (A i) := fun i m e => by
        obtain ⟨v, k1, k2⟩ := own.at_ i m e
        exact ⟨v, k1, RM.stay st1 (fun b hb => (RQs.lst hq b hb).1) k2 fun b hb hy => (ft.2 b hy).1 ((hA b).mpr ⟨i, hb⟩)⟩
      have s1 : Step F0 H0 O0 F1 H O := ⟨s0.grow.trans a1, s0.keep, fun a o q => by
        rcases a3 a o q with y | ⟨_, y⟩
        · exact s0.froz a o y
        · exact .inr (.inl y), s0.ownd, s0.there⟩
      have lO : ∀ a ∈ Os.flatten, ∃ vs, H a = some (.lst vs) := fun a ha => by
        obtain ⟨i, _, u⟩ := a7 a ha
        exact rel.ofO a ((hA a).mpr ⟨i, u⟩)
      have subO : ∀ a ∈ Os.flatten, a ∈ O := fun a ha => by
        obtain ⟨i, _, u⟩ := a7 a ha
        exact (hA a).mpr ⟨i, u⟩
      cases hr : r f ms with
      | stuck => rw [hr] at w; exact w.elim
      | exc c d =>
        rw [hr] at w
        dsimp only at w ⊢
        intro F' H' Os' dx v s' l' rp hd
        by_cases hn : refs qs = []
        · -- nothing was lent
          have eO : Os.flatten = [] := List.eq_nil_iff_forall_not_mem.mpr fun a ha => by
            obtain ⟨i, hi, _⟩ := a7 a ha
            rw [hn] at hi; cases hi
          have w' : wX z W (.exc c d env : R (Q × Env)) F0 H0 O0 σ (fun q F' H' O' => ∀ v t, RQ z F' H' σ q v t → Fresh H0 O' t → K v H') := by
            have : drop env qs = env := by unfold drop; rw [if_pos hn]
            rw [this] at w
            exact w
          have own2 : Own z F' H' env σ A := ⟨own.len, fun i m e => by
            obtain ⟨v, k1, k2⟩ := own1 i m e
            exact ⟨v, k1, RM.stay s' lO k2 fun a ha => by rw [eO]; simp⟩, own.non, own.one, own.nd⟩
          obtain ⟨O2, r2, hO2⟩ := own2.rel l'
          have s2 : Step F1 H O F' H' O2 := ⟨s'.grow, fun a o q ho => s'.keep a o q (by rw [eO]; simp), fun a o q => (by
            rcases s'.froz a o q with y | y | y
            · exact .inl y
            · exact .inr (.inl y)
            · rw [eO] at y; cases y), fun a ha => .inl ((hA a).mpr ((hO2 a).mp ha)), s'.there⟩
          exact w' F' H' O2 dx v (s1.trans s2) r2 rp hd
        · have w' : wX z W (.exc c d (env.map fun _ => none) : R (Q × Env)) F0 H0 O0 σ (fun q F' H' O' => ∀ v t, RQ z F' H' σ q v t → Fresh H0 O' t → K v H') := by
            have : drop env qs = env.map fun _ => none := by unfold drop; rw [if_neg hn]
            rw [this] at w
            exact w
          have s2 : Step F1 H O F' H' [] := ⟨s'.grow, fun a o q ho => s'.keep a o q fun hm => ho (subO a hm), fun a o q => by
            rcases s'.froz a o q with y | y | y
            · exact .inl y
            · exact .inr (.inl y)
            · exact .inr (.inr (subO a y)), fun _ h => (nomatch h), s'.there⟩
          exact w' F' H' [] dx v (s1.trans s2) (none_rel l' own.len) rp hd
      | ok m ms' =>
        rw [hr] at w
        dsimp only
        -- the answer is a value or a new list
        have pl : plainM m = true ∧ ∃ env2, unlend qs ms' env = some env2 ∧ wX z W (.ok (.mv m, env2) : R (Q × Env)) F0 H0 O0 σ fun q F' H' O' => ∀ v t, RQ z F' H' σ q v t → Fresh H0 O' t → K v H' := by
          cases m with
          | val d =>
            dsimp only at w
            cases hu : unlend qs ms' env with
            | none => rw [hu] at w; exact w.elim
            | some env2 => rw [hu] at w; exact ⟨rfl, env2, rfl, w⟩
          | own io xs =>
            cases io with
            | true => exact w.elim
            | false =>
              dsimp only at w
              cases hu : unlend qs ms' env with
              | none => rw [hu] at w; exact w.elim
              | some env2 => rw [hu] at w; exact ⟨rfl, env2, rfl, w⟩
          | deal io b n =>
            cases io with
            | true => exact w.elim
            | false =>
              dsimp only at w
              cases hu : unlend qs ms' env with
              | none => rw [hu] at w; exact w.elim
              | some env2 => rw [hu] at w; exact ⟨rfl, env2, rfl, w⟩
          | ex c d => exact w.elim
        obtain ⟨pm, env2, hu, w⟩ := pl
        refine ⟨pm, fun v F' H' Os' t' s' l' ra nd' rm fr => ?_⟩
        obtain ⟨B, b1, b2, b3, b4, b5⟩ := unlend_in hu hq ra nr
        obtain ⟨b6, b7⟩ := b5 nd'
        -- the new lists of the lent are old ones of the lent, or new
        have bO : ∀ i a, a ∈ B i → a ∈ Os.flatten ∨ H a = none := fun i a ha => s'.ownd a (b4 i a ha)
        have own2 : Own z F' H' env2 σ (fun i => if i ∈ refs qs then B i else A i) := by
          refine ⟨by rw [b1]; exact own.len, fun i m' e => ?_, fun i e => ?_, fun i j a hi hj => ?_, fun i => ?_⟩
          · by_cases hi : i ∈ refs qs
            · obtain ⟨m2, v2, c1, c2, c3⟩ := b3 i hi
              rw [c1] at e
              cases e
              exact ⟨v2, c2, by (try dsimp only); rw [if_pos hi]; exact c3⟩
            · obtain ⟨c1, _⟩ := b2 i hi
              rw [c1] at e
              obtain ⟨v2, k1, k2⟩ := own1 i m' e
              refine ⟨v2, k1, ?_⟩
              (try dsimp only); rw [if_neg hi]
              refine RM.stay s' lO k2 fun a ha hm => ?_
              obtain ⟨j, hj, u⟩ := a7 a hm
              have := own.one i j a ha u
              subst this
              exact hi hj
          · by_cases hi : i ∈ refs qs
            · obtain ⟨m2, v2, c1, _⟩ := b3 i hi
              rw [c1] at e; cases e
            · obtain ⟨c1, _⟩ := b2 i hi
              rw [c1] at e
              (try dsimp only); rw [if_neg hi]
              exact own.non i e
          · by_cases h1 : i ∈ refs qs
            · by_cases h2 : j ∈ refs qs
              · (try dsimp only at hi); rw [if_pos h1] at hi; (try dsimp only at hj); rw [if_pos h2] at hj
                exact b6 i j a hi hj
              · (try dsimp only at hi); rw [if_pos h1] at hi; (try dsimp only at hj); rw [if_neg h2] at hj
                exfalso
                rcases bO i a hi with u | u
                · obtain ⟨k, hk, u2⟩ := a7 a u
                  have := own.one j k a hj u2
                  subst this
                  exact h2 hk
                · obtain ⟨vs2, e⟩ := rel.ofO a ((hA a).mpr ⟨j, hj⟩)
                  rw [u] at e; cases e
            · by_cases h2 : j ∈ refs qs
              · (try dsimp only at hi); rw [if_neg h1] at hi; (try dsimp only at hj); rw [if_pos h2] at hj
                exfalso
                rcases bO j a hj with u | u
                · obtain ⟨k, hk, u2⟩ := a7 a u
                  have := own.one i k a hi u2
                  subst this
                  exact h1 hk
                · obtain ⟨vs2, e⟩ := rel.ofO a ((hA a).mpr ⟨i, hi⟩)
                  rw [u] at e; cases e
              · (try dsimp only at hi); rw [if_neg h1] at hi; (try dsimp only at hj); rw [if_neg h2] at hj
                exact own.one i j a hi hj
          · by_cases h1 : i ∈ refs qs
            · (try dsimp only); rw [if_pos h1]; exact b7 i
            · (try dsimp only); rw [if_neg h1]; exact own.nd i
        obtain ⟨O2, r2, hO2⟩ := own2.rel l'
        have mO2 : ∀ a ∈ O2, a ∈ O ∨ H a = none := fun a ha => by
          obtain ⟨i, hi⟩ := (hO2 a).mp ha
          by_cases h1 : i ∈ refs qs
          · (try dsimp only at hi); rw [if_pos h1] at hi
            exact (bO i a hi).imp (subO a) id
          · (try dsimp only at hi); rw [if_neg h1] at hi
            exact .inl ((hA a).mpr ⟨i, hi⟩)
        have s2 : Step F1 H O F' H' O2 := ⟨s'.grow, fun a o q ho => s'.keep a o q fun hm => ho (subO a hm), fun a o q => by
            rcases s'.froz a o q with y | y | y
            · exact .inl y
            · exact .inr (.inl y)
            · exact .inr (.inr (subO a y)), mO2, s'.there⟩
        refine w F' H' O2 (s1.trans s2) r2 v t' ?_ ⟨fr.1, fun a ha => ⟨fun hm => ?_, s0.back (fr.2 a ha).2⟩⟩
        · cases m with
          | val d => exact rm
          | own io xs => cases io with
            | true => simp [plainM] at pm
            | false => exact rm
          | deal io b n => cases io with
            | true => simp [plainM] at pm
            | false => exact rm
          | ex c d => simp [plainM] at pm
        · obtain ⟨n1, n2⟩ := fr.2 a ha
          obtain ⟨i, hi⟩ := (hO2 a).mp hm
          by_cases h1 : i ∈ refs qs
          · (try dsimp only at hi); rw [if_pos h1] at hi
            exact n1 (b4 i a hi)
          · (try dsimp only at hi); rw [if_neg h1] at hi
            obtain ⟨vs2, e⟩ := rel.ofO a ((hA a).mpr ⟨i, hi⟩)
            rw [n2] at e; cases e
  · rw [if_neg nr] at w
    exact w.elim
theorem je_call {k f : Nat} {fa : Addr} {fd : FuncData} {ps : List Str} {x : Str} {p pos : Pos} {e : Expr} {es : List Expr} {mes : Es} (Fk : FnOk X.prog X.w X.K X.mg X.base (L2.CX X.prog X.w) k fa fd ps (spM z.cl (r f))) (hr : Room k X.A) (hm : X.mg x = some (.ref fa))
    (hk : PySem.W.keepIn X.K (.ref fa) = true) (hb : Binds X.K fd ps []) (tk : Takes X W) (ha : PA X (e :: es) (trEs z W r mes)) (hg : Gl X x := by rfl) (hdb : (x == ("__debug__" : Str)) = false := by decide)
    (he : starEach (e :: es) X.env = (false, eval e X.env) :: starEach es X.env := by rfl) (hpl : (backTo pos (starEach es X.env)).any (·.1) = false := by rfl) : PE X (.Call (.Name x p) (e :: es) [] pos) (trE z W r (.call f mes)) :=
  PE.imp (pe_callSD (E := WE W) Fk hr hg hm hk hb .nil (fun σ => passAt tk σ) ha hdb he hpl) fun σ H K h => by
    obtain ⟨F, O, env, rel, w⟩ := h
    rw [denE_call] at w
    refine ⟨F, O, env, rel, wX.bind0 w fun qs env1 F1 H1 O1 _ s1 r1 w1 => ?_⟩
    intro vs t hq ft
    exact call_in s1 r1 hq ft w1
end
end Rx

/-! RxStm -/
/-! RxStm: the judgement of statements; sequence, assignment, return, if, while, for. -/
set_option linter.all false
set_option Elab.async false
set_option maxRecDepth 100000
set_option maxHeartbeats 4000000
namespace Rx
open PySem L2

/-- what is lent behind was lent before, at the same place -/
def Stay (env env' : Env) (σ σ' : St) : Prop := ∀ i, lent i env' = true → lent i env = true ∧ σ'[i]? = σ[i]?
theorem Stay.refl (env : Env) (σ : St) : Stay env env σ σ := fun _ h => ⟨h, rfl⟩
theorem Stay.trans {e1 e2 e3 : Env} {s1 s2 s3 : St} (a : Stay e1 e2 s1 s2) (b : Stay e2 e3 s2 s3) : Stay e1 e3 s1 s3 := fun i h => by
  obtain ⟨h1, h2⟩ := b i h
  obtain ⟨h3, h4⟩ := a i h1
  exact ⟨h3, h2.trans h4⟩
theorem LM.stay {env env' : Env} (h : LM env env') (σ : St) : Stay env env' σ σ := fun i k => ⟨h i k, rfl⟩

def wO (z : Cz) (W : WX) (x : O) (F H : Hp) (O : List Addr) (σ : St) (env : Env) (D : Ends) : Prop := match x with
  | .nx env' => ∀ σ' F' H' O', Step F H O F' H' O' → z.Rel F' H' env' σ' O' → Stay env env' σ σ' → D.nx σ' H'
  | .bk env' => ∀ σ' F' H' O', Step F H O F' H' O' → z.Rel F' H' env' σ' O' → Stay env env' σ σ' → D.bk σ' H'
  | .ct env' => ∀ σ' F' H' O', Step F H O F' H' O' → z.Rel F' H' env' σ' O' → Stay env env' σ σ' → D.ct σ' H'
  | .rt m env' => plainM m = true ∧ ∀ v σ' F' H' O' t, Step F H O F' H' O' → z.Rel F' H' env' σ' O' → Stay env env' σ σ' → RM F' H' z.xa z.xd m v t → t.Nodup → (∀ a ∈ t, a ∉ O' ∧ (a ∈ O ∨ H a = none)) → D.rt v H'
  | .exc c d env' => ∀ σ' F' H' O' dx v, Step F H O F' H' O' → z.Rel F' H' env' σ' O' → Stay env env' σ σ' → Rep F' d v → H' dx = some (.xd [(atK, v)]) → W (.ref (z.cl c)) (some dx) σ' H'
  | .stuck => False
theorem wO.shift {z : Cz} {W : WX} {x : O} {F H F1 H1 : Hp} {O O1 : List Addr} {σ σ1 : St} {env env1 : Env} {D : Ends} (s1 : Step F H O F1 H1 O1) (st : Stay env env1 σ σ1) (h : wO z W x F H O σ env D) : wO z W x F1 H1 O1 σ1 env1 D := by
  cases x with
  | stuck => exact h
  | nx e => exact fun σ' F' H' O' s r k => h σ' F' H' O' (s1.trans s) r (st.trans k)
  | bk e => exact fun σ' F' H' O' s r k => h σ' F' H' O' (s1.trans s) r (st.trans k)
  | ct e => exact fun σ' F' H' O' s r k => h σ' F' H' O' (s1.trans s) r (st.trans k)
  | rt m e => exact ⟨h.1, fun v σ' F' H' O' t s r k rm n f => h.2 v σ' F' H' O' t (s1.trans s) r (st.trans k) rm n fun a ha => ⟨(f a ha).1, (by
      rcases (f a ha).2 with y | y
      · exact s1.ownd a y
      · exact .inr (s1.back y))⟩⟩
  | exc c d e => exact fun σ' F' H' O' dx v s r k rp hd => h σ' F' H' O' dx v (s1.trans s) r (st.trans k) rp hd
theorem wO.imp {z : Cz} {W : WX} {x : O} {F H : Hp} {O : List Addr} {σ : St} {env : Env} {D D' : Ends} (h : wO z W x F H O σ env D) (h1 : ∀ e, x = .nx e → ∀ σ' H', D.nx σ' H' → D'.nx σ' H') (h2 : ∀ σ' H', D.bk σ' H' → D'.bk σ' H') (h3 : ∀ σ' H', D.ct σ' H' → D'.ct σ' H') (h4 : ∀ v H', D.rt v H' → D'.rt v H') : wO z W x F H O σ env D' := by
  cases x with
  | stuck => exact h
  | nx e => exact fun σ' F' H' O' s r k => h1 e rfl _ _ (h σ' F' H' O' s r k)
  | bk e => exact fun σ' F' H' O' s r k => h2 _ _ (h σ' F' H' O' s r k)
  | ct e => exact fun σ' F' H' O' s r k => h3 _ _ (h σ' F' H' O' s r k)
  | rt m e => exact ⟨h.1, fun v σ' F' H' O' t s r k rm n f => h4 _ _ (h.2 v σ' F' H' O' t s r k rm n f)⟩
  | exc c d e => exact h

section
variable (z : Cz) (W : WX) (r : Fs)
def trS (s : S) : TS := fun D σ H => ∃ F O env, z.Rel F H env σ O ∧ wO z W (denS r s env) F H O σ env D
def trSs (ss : Ss) : TS := fun D σ H => ∃ F O env, z.Rel F H env σ O ∧ wO z W (denSs r ss env) F H O σ env D
end
section
variable {X : Cx} {z : Cz} {W : WX} {r : Fs}

/-- from a meaning of an expression on -/
theorem wO.o {α : Type} {x : R (α × Env)} {k : α × Env → O} {F H : Hp} {O : List Addr} {σ : St} {env : Env} {D : Ends} {K1 : α → Hp → Hp → List Addr → Prop} (h : wO z W (x.o k) F H O σ env D) (lm : x.lm env)
    (hK : ∀ a env1 F1 H1 O1, x = .ok (a, env1) → Step F H O F1 H1 O1 → z.Rel F1 H1 env1 σ O1 → Stay env env1 σ σ → wO z W (k (a, env1)) F H O σ env D → K1 a F1 H1 O1) : wX z W x F H O σ K1 := by
  cases x with
  | stuck => exact h
  | exc c d e => exact fun F' H' O' dx v s r rp hd => h σ F' H' O' dx v s r (LM.stay lm σ) rp hd
  | ok p =>
    obtain ⟨a, env1⟩ := p
    intro F1 H1 O1 s1 r1
    exact hK a env1 F1 H1 O1 rfl s1 r1 (LM.stay lm σ) h

/-! ### sequence -/
theorem js_nil : PSs X [] (trSs z W r .nil) := PSs.imp pss_nil fun D σ H ⟨F, O, env, rel, w⟩ => w σ F H O (Step.refl _ _ _) rel (Stay.refl _ _)
theorem seq_in {s : S} {ss : Ss} {D : Ends} {σ : St} {H : Hp} (h : trSs z W r (.cons s ss) D σ H) : tSeq (trS z W r s) (trSs z W r ss) D σ H := by
  obtain ⟨F, O, env, rel, w⟩ := h
  rw [denSs] at w
  refine ⟨F, O, env, rel, ?_⟩
  cases e : denS r s env with
  | stuck => rw [e] at w; exact w
  | nx env1 =>
    rw [e] at w
    exact fun σ1 F1 H1 O1 s1 r1 k => ⟨F1, O1, env1, r1, wO.shift s1 k w⟩
  | bk env1 => rw [e] at w; exact w
  | ct env1 => rw [e] at w; exact w
  | rt m env1 => rw [e] at w; exact w
  | exc c d env1 => rw [e] at w; exact w
theorem js_cons {st : Stmt} {rest : List Stmt} {s : S} {ss : Ss} (h1 : PS X st (trS z W r s)) (h2 : PSs X rest (trSs z W r ss)) : PSs X (st :: rest) (trSs z W r (.cons s ss)) := PSs.imp (pss_cons h1 h2) fun _ _ _ h => seq_in h
theorem js_pass {pos : Pos} : PS X (.Pass pos) (trS z W r .pass) := PS.imp ps_pass fun D σ H ⟨F, O, env, rel, w⟩ => w σ F H O (Step.refl _ _ _) rel (Stay.refl _ _)
theorem js_brk {pos : Pos} : PS X (.Break pos) (trS z W r .brk) := PS.imp ps_break fun D σ H ⟨F, O, env, rel, w⟩ => w σ F H O (Step.refl _ _ _) rel (Stay.refl _ _)
theorem js_cnt {pos : Pos} : PS X (.Continue pos) (trS z W r .cnt) := PS.imp ps_continue fun D σ H ⟨F, O, env, rel, w⟩ => w σ F H O (Step.refl _ _ _) rel (Stay.refl _ _)
theorem js_doc {x j pos pos'} : PS X (.Expr (.Constant (.str x) j pos) pos') (trS z W r .doc) := PS.imp ps_doc fun D σ H ⟨F, O, env, rel, w⟩ => w σ F H O (Step.refl _ _ _) rel (Stay.refl _ _)

/-! ### return -/
theorem give_in {F0 H0 F H : Hp} {O0 O : List Addr} {env env2 : Env} {σ : St} {q : Q} {v : V} {t : List Addr} {m : M} (s0 : Step F0 H0 O0 F H O) (rel : z.Rel F H env σ O) (hq : RQ z F H σ q v t) (ft : Fresh H0 O t) (g : q.give env = some (m, env2)) :
    plainM m = true ∧ LM env env2 ∧ ∃ O2 t2, (∀ a ∈ O2, a ∈ O) ∧ z.Rel F H env2 σ O2 ∧ RM F H z.xa z.xd m v t2 ∧ t2.Nodup ∧ ∀ a ∈ t2, a ∉ O2 ∧ (a ∈ O0 ∨ H0 a = none) := by
  -- a list of one's own leaves its slot
  have key : ∀ i m', slot i env = some m' → plainM m' = true → σ[i]? = some (some v) → LM env (env.set i none) ∧ ∃ O2 t2, (∀ a ∈ O2, a ∈ O) ∧ z.Rel F H (env.set i none) σ O2 ∧ RM F H z.xa z.xd m' v t2 ∧ t2.Nodup ∧ ∀ a ∈ t2, a ∉ O2 ∧ (a ∈ O0 ∨ H0 a = none) := by
    intro i m' hs hp hv
    refine ⟨LM.set fun x e => (by cases e), ?_⟩
    obtain ⟨A, own, hA⟩ := Rel.own rel
    obtain ⟨w, k1, k2⟩ := own.at_ i m' hs
    rw [hv] at k1
    have ew : v = w := Option.some.inj (Option.some.inj k1)
    subst ew
    have hi : i < env.length := (List.getElem?_eq_some_iff.mp (slot_some hs)).1
    have own2 : Own z F H (env.set i none) σ (fun j => if j = i then [] else A j) := by
      refine ⟨by rw [List.length_set]; exact own.len, fun j m2 e => ?_, fun j e => ?_, fun j k a hj hk => ?_, fun j => ?_⟩
      · rw [slot_set] at e
        by_cases c : j = i
        · rw [if_pos ⟨c, hi⟩] at e; cases e
        · rw [if_neg (fun x => c x.1)] at e
          obtain ⟨w2, c1, c2⟩ := own.at_ j m2 e
          exact ⟨w2, c1, by rw [if_neg c]; exact c2⟩
      · rw [slot_set] at e
        by_cases c : j = i
        · simp [c]
        · rw [if_neg (fun x => c x.1)] at e
          simp only [if_neg c]
          exact own.non j e
      · by_cases c : j = i
        · simp [c] at hj
        · by_cases c2 : k = i
          · simp [c2] at hk
          · simp only [if_neg c] at hj; simp only [if_neg c2] at hk
            exact own.one j k a hj hk
      · by_cases c : j = i
        · simp [c]
        · simp only [if_neg c]; exact own.nd j
    obtain ⟨O2, r2, hO2⟩ := own2.rel rel.le
    refine ⟨O2, A i, fun a ha => ?_, r2, k2, own.nd i, fun a ha => ⟨fun hm => ?_, ?_⟩⟩
    · obtain ⟨j, hj⟩ := (hO2 a).mp ha
      by_cases c : j = i
      · simp [c] at hj
      · simp only [if_neg c] at hj
        exact (hA a).mpr ⟨j, hj⟩
    · obtain ⟨j, hj⟩ := (hO2 a).mp hm
      by_cases c : j = i
      · simp [c] at hj
      · simp only [if_neg c] at hj
        exact c (own.one j i a hj ha)
    · exact s0.ownd a ((hA a).mpr ⟨i, ha⟩)
  cases q with
  | ref i =>
    simp only [Q.give] at g
    cases hs : slot i env with
    | none => rw [hs] at g; cases g
    | some m' =>
      rw [hs] at g
      cases m' with
      | val d => cases g
      | ex c d => cases g
      | own io xs =>
        cases io with
        | true => cases g
        | false =>
          cases g
          exact ⟨rfl, key i _ hs rfl hq.2⟩
      | deal io b n =>
        cases io with
        | true => cases g
        | false =>
          cases g
          exact ⟨rfl, key i _ hs rfl hq.2⟩
  | mv m' =>
    cases m' with
    | val d =>
      cases g
      exact ⟨rfl, LM.refl _, O, [], fun _ h => h, rel, ⟨rfl, hq.2⟩, List.nodup_nil, fun _ h => (nomatch h)⟩
    | own io xs =>
      cases io with
      | true => exact hq.elim
      | false =>
        cases g
        exact ⟨rfl, LM.refl _, O, t, fun _ h => h, rel, hq, ft.1, fun a ha => ⟨(ft.2 a ha).1, .inr (ft.2 a ha).2⟩⟩
    | deal io b n =>
      cases io with
      | true => exact hq.elim
      | false =>
        cases g
        exact ⟨rfl, LM.refl _, O, t, fun _ h => h, rel, hq, ft.1, fun a ha => ⟨(ft.2 a ha).1, .inr (ft.2 a ha).2⟩⟩
    | ex c d => exact hq.elim
theorem js_ret {e : Expr} {me : E} {pos : Pos} (he : PE X e (trE z W r me)) : PS X (.Return (some e) pos) (trS z W r (.ret me)) := PS.imp (ps_ret he) fun D σ H ⟨F, O, env, rel, w⟩ => by
  rw [denS] at w
  refine ⟨F, O, env, rel, wO.o w (denE_lm r me env) fun q env1 F1 H1 O1 _ s1 r1 k1 w1 => ?_⟩
  intro v t hq ft
  dsimp only at w1
  cases g : q.give env1 with
  | none => rw [g] at w1; exact w1.elim
  | some p =>
    obtain ⟨m, env2⟩ := p
    rw [g] at w1
    obtain ⟨pm, lm, O2, t2, h1, h2, h3, h4, h5⟩ := give_in s1 r1 hq ft g
    exact w1.2 v σ F1 H1 O2 t2 (s1.less h1) h2 (k1.trans (LM.stay lm σ)) h3 h4 h5
theorem js_retN {pos : Pos} : PS X (.Return none pos) (trS z W r .retN) := PS.imp ps_retN fun D σ H ⟨F, O, env, rel, w⟩ => by
  rw [denS] at w
  exact w.2 .non σ F H O [] (Step.refl _ _ _) rel (Stay.refl _ _) ⟨rfl, by simp only [Rep]⟩ List.nodup_nil fun _ h => (nomatch h)
theorem js_expr {e : Expr} {me : E} {pos : Pos} (he : PE X e (trE z W r me)) (hs : swapsWith e none pos.line X.env = pure false := by rfl) : PS X (.Expr e pos) (trS z W r (.expr me)) := PS.imp (ps_expr he hs) fun D σ H ⟨F, O, env, rel, w⟩ => by
  rw [denS] at w
  refine ⟨F, O, env, rel, wO.o w (denE_lm r me env) fun q env1 F1 H1 O1 _ s1 r1 k1 w1 => ?_⟩
  intro v t hq ft
  exact w1 σ F1 H1 O1 s1 r1 k1

/-! ### if -/
theorem js_if {c : Expr} {a b : List Stmt} {mc : E} {ma mb : Ss} {pos : Pos} (hc : PT X c (trT z W r mc)) (ha : PSs X a (trSs z W r ma)) (hb : PSs X b (trSs z W r mb)) : PS X (.If c a b pos) (trS z W r (.ite mc ma mb)) := PS.imp (ps_if hc ha hb) fun D σ H ⟨F, O, env, rel, w⟩ => by
  rw [denS] at w
  refine ⟨F, O, env, rel, wO.o w (denT_lm r mc env) fun k env1 F1 H1 O1 _ s1 r1 k1 w1 => ?_⟩
  cases k with
  | true => exact iteT ⟨F1, O1, env1, r1, wO.shift s1 k1 w1⟩
  | false => exact iteF ⟨F1, O1, env1, r1, wO.shift s1 k1 w1⟩

/-! ### assignment -/
/-- a slot is filled -/
theorem put_in {F H : Hp} {O t : List Addr} {env env2 : Env} {σ : St} {i : Nat} {m : M} {v : V} (rel : z.Rel F H env σ O) (h : put i m env = some env2) (rm : RM F H z.xa z.xd m v t) (nt : t.Nodup) (ft : ∀ a ∈ t, a ∉ O) (nl : notLent m = true) :
    ∃ O2, z.Rel F H env2 (σ.set i (some v)) O2 ∧ (∀ a ∈ O2, a ∈ O ∨ a ∈ t) ∧ Stay env env2 σ (σ.set i (some v)) := by
  unfold put at h
  by_cases c : free i env = true
  · rw [if_pos c] at h
    cases h
    obtain ⟨A, own, hA⟩ := Rel.own rel
    have hi : i < env.length := by
      unfold free at c
      cases hs : slot i env with
      | none => rw [hs] at c; simpa using c
      | some m' => exact (List.getElem?_eq_some_iff.mp (slot_some hs)).1
    have his : i < σ.length := by rw [own.len]; exact hi
    have own2 : Own z F H (env.set i (some m)) (σ.set i (some v)) (fun j => if j = i then t else A j) := by
      refine ⟨by rw [List.length_set, List.length_set]; exact own.len, fun j m2 e => ?_, fun j e => ?_, fun j k a hj hk => ?_, fun j => ?_⟩
      · rw [slot_set] at e
        by_cases c : j = i
        · rw [if_pos ⟨c, hi⟩] at e
          cases e
          subst c
          exact ⟨v, by rw [List.getElem?_set_self his], by rw [if_pos rfl]; exact rm⟩
        · rw [if_neg (fun x => c x.1)] at e
          obtain ⟨w2, c1, c2⟩ := own.at_ j m2 e
          exact ⟨w2, by rw [List.getElem?_set_ne (Ne.symm c)]; exact c1, by rw [if_neg c]; exact c2⟩
      · rw [slot_set] at e
        by_cases c : j = i
        · rw [if_pos ⟨c, hi⟩] at e; cases e
        · rw [if_neg (fun x => c x.1)] at e
          simp only [if_neg c]
          exact own.non j e
      · by_cases c : j = i
        · by_cases c2 : k = i
          · rw [c, c2]
          · simp only [if_pos c] at hj; simp only [if_neg c2] at hk
            exact absurd ((hA a).mpr ⟨k, hk⟩) (ft a hj)
        · by_cases c2 : k = i
          · simp only [if_neg c] at hj; simp only [if_pos c2] at hk
            exact absurd ((hA a).mpr ⟨j, hj⟩) (ft a hk)
          · simp only [if_neg c] at hj; simp only [if_neg c2] at hk
            exact own.one j k a hj hk
      · by_cases c : j = i
        · simp only [if_pos c]; exact nt
        · simp only [if_neg c]; exact own.nd j
    obtain ⟨O2, r2, hO2⟩ := own2.rel rel.le
    refine ⟨O2, r2, fun a ha => ?_, fun j hj => ?_⟩
    · obtain ⟨j, hj⟩ := (hO2 a).mp ha
      by_cases c : j = i
      · simp only [if_pos c] at hj; exact .inr hj
      · simp only [if_neg c] at hj; exact .inl ((hA a).mpr ⟨j, hj⟩)
    · have lj : lent j env = true := by
        refine LM.set (fun x e hx => ?_) j hj
        cases e
        rw [nl] at hx; cases hx
      refine ⟨lj, ?_⟩
      by_cases c2 : j = i
      · subst c2
        exfalso
        unfold lent at hj
        rw [slot_set, if_pos ⟨rfl, hi⟩] at hj
        simp [nl] at hj
      · rw [List.getElem?_set_ne (Ne.symm c2)]
  · rw [if_neg c] at h
    cases h
theorem take_in {F0 H0 F H : Hp} {O : List Addr} {σ : St} {q : Q} {m : M} {v : V} {t : List Addr} (hq : RQ z F H σ q v t) (g : q.take = some m) : RM F H z.xa z.xd m v t := by
  cases q with
  | ref i => cases g
  | mv m' =>
    cases m' with
    | val d => cases g; exact hq
    | own io xs => cases io <;> simp [Q.take] at g; subst g; exact hq
    | deal io b n => cases io <;> simp [Q.take] at g; subst g; exact hq
    | ex c d => cases g
/-- x = e -/
theorem asg_nm {i : Nat} {me : E} {D : Ends} {σ : St} {H : Hp} (h : trS z W r (.asg (.nm i) me) D σ H) : tAsg (trE z W r me) (gName i) D σ H := by
  obtain ⟨F, O, env, rel, w⟩ := h
  rw [denS] at w
  refine ⟨F, O, env, rel, wO.o w (denE_lm r me env) fun q env1 F1 H1 O1 _ s1 r1 k1 w1 => ?_⟩
  intro v t hq ft
  dsimp only at w1
  cases g : q.take with
  | none => rw [g] at w1; exact w1.elim
  | some m =>
    rw [g] at w1
    have w1 : wO z W (Rx.O.of (put i m env1)) F H O σ env D := w1
    cases hp : put i m env1 with
    | none => rw [hp] at w1; exact w1.elim
    | some env2 =>
      rw [hp] at w1
      obtain ⟨O2, r2, h2, st⟩ := put_in r1 hp (take_in (F0 := F) (H0 := H) (O := O) hq g) ft.1 (fun a ha => (ft.2 a ha).1) (take_not g)
      refine w1 _ F1 H1 O2 ⟨s1.grow, s1.keep, s1.froz, fun a ha => ?_, s1.there⟩ r2 (k1.trans st)
      rcases h2 a ha with y | y
      · exact s1.ownd a y
      · exact .inr (ft.2 a y).2
theorem js_set {i : Nat} {x : Str} {e : Expr} {me : E} {pos pos' : Pos} (hN : X.N.Nodup) (he : PE X e (trE z W r me)) (hi : X.N[i]? = some x := by rfl) (hx : Loc X.env.scope x := by first | exact .inl rfl | exact .inr rfl) (hs : swapsWith e (some (.Name x pos')) pos.line X.env = pure false := by rfl)
    (hf : X.fn x = true ∨ X.env.scope.names.lookup x = some .local := by first | exact .inl rfl | exact .inr rfl) : PS X (.Assign [.Name x pos'] e pos) (trS z W r (.asg (.nm i) me)) := PS.imp (ps_set hN hi hx he hs hf) fun _ _ _ h => asg_nm h
/-! ### targets -/
def gNames : List Nat → TGs
  | [] => gNil
  | i :: is => gCons (gName i) (gNames is)
def gT (K : PySem.W.Frag) : T → TG
  | .nm i => gName i
  | .tp is => gTup K is.length (gNames is)
  | .tpp i is => gTup K 2 (gCons (gName i) (gCons (gTup K is.length (gNames is)) gNil))
theorem putD_in {F H : Hp} {Kn : St → Hp → Prop} : ∀ {is : List Nat} {ds : List D} {vs : List V} {env env2 : Env} {σ : St} {O : List Addr}, z.Rel F H env σ O → putD is ds env = some env2 → Reps F ds vs →
    (∀ σ2 O2, z.Rel F H env2 σ2 O2 → (∀ a ∈ O2, a ∈ O) → Stay env env2 σ σ2 → Kn σ2 H) → gNames is vs σ H Kn
  | [], [], vs, env, env2, σ, O, rel, h, rp, k => by
    cases h
    exact ⟨rp.nil_inv, k σ O rel (fun _ h => h) (Stay.refl _ _)⟩
  | i :: is, d :: ds, vs, env, env2, σ, O, rel, h, rp, k => by
    simp only [putD] at h
    obtain ⟨e1, h1, h2⟩ := Option.bind_eq_some_iff.mp h
    obtain ⟨v, r', rfl, q1, q2⟩ := rp.cons_inv
    obtain ⟨O1, r1, l1, st1⟩ := put_in rel h1 (v := v) (t := []) ⟨rfl, q1⟩ List.nodup_nil (fun _ h => (nomatch h)) rfl
    exact ⟨v, r', rfl, putD_in r1 h2 q2 fun σ2 O2 r2 l2 st2 => k σ2 O2 r2 (fun a ha => (l1 a (l2 a ha)).resolve_right (fun h => nomatch h)) (st1.trans st2)⟩
  | [], _ :: _, _, _, _, _, _, _, h, _, _ => by cases h
  | _ :: _, [], _, _, _, _, _, _, h, _, _ => by cases h
theorem gNames_len {H : Hp} {Kn : St → Hp → Prop} : ∀ {is : List Nat} {vs : List V} {σ : St}, gNames is vs σ H Kn → vs.length = is.length
  | [], _, _, h => by rw [h.1]; rfl
  | i :: is, _, _, h => by
    obtain ⟨v, r, e, h2⟩ := h
    have h3 : gNames is r _ H Kn := h2
    rw [e, List.length_cons, List.length_cons, gNames_len h3]
theorem tup_in {F H : Hp} {K : PySem.W.Frag} {Kn : St → Hp → Prop} {is : List Nat} {ds : List D} {v : V} {env env2 : Env} {σ : St} {O : List Addr} (rel : z.Rel F H env σ O) (h : putD is ds env = some env2) (rp : Rep F (.tup ds) v)
    (k : ∀ σ2 O2, z.Rel F H env2 σ2 O2 → (∀ a ∈ O2, a ∈ O) → Stay env env2 σ σ2 → Kn σ2 H) : gTup K is.length (gNames is) v σ H Kn := by
  simp only [Rep] at rp
  obtain ⟨a, vs, e, hf, rs⟩ := rp
  have q := putD_in rel h rs k
  exact ⟨a, vs, e, SqT.of (rel.le _ _ hf), gNames_len q, q⟩
theorem tput_in {F H : Hp} {K : PySem.W.Frag} {Kn : St → Hp → Prop} {t : T} {m : M} {v : V} {tA : List Addr} {env env2 : Env} {σ : St} {O : List Addr} (rel : z.Rel F H env σ O) (h : t.put (some m) env = some env2) (rm : RM F H z.xa z.xd m v tA) (nt : tA.Nodup) (ft : ∀ a ∈ tA, a ∉ O) (nl : notLent m = true)
    (k : ∀ σ2 O2, z.Rel F H env2 σ2 O2 → (∀ a ∈ O2, a ∈ O ∨ a ∈ tA) → Stay env env2 σ σ2 → Kn σ2 H) : gT K t v σ H Kn := by
  cases t with
  | nm i =>
    obtain ⟨O2, r2, h2, st⟩ := put_in rel (show put i m env = some env2 from h) rm nt ft nl
    exact k _ O2 r2 h2 st
  | tp is =>
    cases m with
    | val d =>
      cases d with
      | tup ds => exact tup_in rel (show putD is ds env = some env2 from h) rm.2 fun σ2 O2 r2 l2 st => k σ2 O2 r2 (fun a ha => .inl (l2 a ha)) st
      | _ => cases h
    | _ => cases h
  | tpp i is =>
    unfold T.put at h
    split at h
    · cases ‹T.tpp i is = T.nm _›
    · cases ‹T.tpp i is = T.tp _›
    · rename_i i' is' d ds _ e1 e2
      cases e1
      cases e2
      obtain ⟨env1, h1, h2⟩ := Option.bind_eq_some_iff.mp h
      have rp := rm.2
      simp only [Rep] at rp
      obtain ⟨a, vs, e, hf, rs⟩ := rp
      obtain ⟨v1, r1', rfl, q1, q2⟩ := rs.cons_inv
      obtain ⟨v2, r2', rfl, q3, q4⟩ := q2.cons_inv
      rw [q4.nil_inv] at hf
      obtain ⟨O1, r1, l1, st1⟩ := put_in rel h1 (v := v1) (t := []) ⟨rfl, q1⟩ List.nodup_nil (fun _ h => (nomatch h)) rfl
      refine ⟨a, [v1, v2], e, SqT.of (rel.le _ _ hf), rfl, v1, [v2], rfl, v2, [], rfl, tup_in r1 h2 q3 fun σ2 O2 r2 l2 st2 => ⟨rfl, k σ2 O2 r2 (fun a ha => ?_) (st1.trans st2)⟩⟩
      rcases l1 a (l2 a ha) with y | y
      · exact .inl y
      · cases y
    · cases h
theorem js_asg {t : T} {tg e : Expr} {me : E} {pos : Pos} (he : PE X e (trE z W r me)) (hg : PG X tg (gT X.K t)) (hs : swapsWithSole [tg] e pos.line X.env = pure false := by rfl) (hw : swappedStores [tg] e X.env = pure none := by rfl)
    (h1 : (assignEach [tg] X.env).map (·.2) = [assign tg X.env] := by rfl) : PS X (.Assign [tg] e pos) (trS z W r (.asg t me)) := PS.imp (ps_asg he hg hs hw h1) fun D σ H ⟨F, O, env, rel, w⟩ => by
  rw [denS] at w
  refine ⟨F, O, env, rel, wO.o w (denE_lm r me env) fun q env1 F1 H1 O1 _ s1 r1 k1 w1 => ?_⟩
  intro v tA hq ft
  dsimp only at w1
  cases g : q.take with
  | none =>
    rw [g] at w1
    cases t <;> exact w1.elim
  | some m =>
    rw [g] at w1
    cases hp : t.put (some m) env1 with
    | none => rw [hp] at w1; exact w1.elim
    | some env2 =>
      rw [hp] at w1
      refine tput_in r1 hp (take_in (F0 := F) (H0 := H) (O := O) hq g) ft.1 (fun a ha => (ft.2 a ha).1) (take_not g) fun σ2 O2 r2 h2 st => w1 _ F1 H1 O2 ⟨s1.grow, s1.keep, s1.froz, fun a ha => ?_, s1.there⟩ r2 (k1.trans st)
      rcases h2 a ha with y | y
      · exact s1.ownd a y
      · exact .inr (ft.2 a y).2

/-! ### a, b = x, y -/
def sets (σ : St) : List Nat → List V → St
  | i :: is, v :: vs => sets (σ.set i (some v)) is vs
  | _, _ => σ
def RMs (z : Cz) (F H : Hp) : List M → List V → List (List Addr) → Prop
  | [], vs, ts => vs = [] ∧ ts = []
  | m :: ms, vs, ts => ∃ v r x y, vs = v :: r ∧ ts = x :: y ∧ RM F H z.xa z.xd m v x ∧ RMs z F H ms r y
theorem takes_in {F H : Hp} {σ : St} : ∀ {qs : List Q} {ms : List M} {vs : List V} {t : List Addr}, takes qs = some ms → RQs z F H σ qs vs t → ∃ ts, RMs z F H ms vs ts ∧ ts.flatten = t ∧ ms.all notLent = true
  | [], ms, vs, t, h, q => by
    cases h
    exact ⟨[], ⟨q.1, rfl⟩, by rw [q.2]; rfl, rfl⟩
  | q :: qs, ms, vs, t, h, hq => by
    obtain ⟨v, r', x, y, e1, e2, g1, g2⟩ := hq
    unfold takes at h
    cases h1 : q.take with
    | none => rw [h1] at h; cases h
    | some m =>
      cases h2 : takes qs with
      | none => rw [h1, h2] at h; cases h
      | some ms' =>
        rw [h1, h2] at h
        cases h
        obtain ⟨ts, a1, a2, a3⟩ := takes_in h2 g2
        exact ⟨x :: ts, ⟨v, r', x, ts, e1, rfl, take_in (F0 := F) (H0 := H) (O := []) g1 h1, a1⟩, by rw [List.flatten_cons, a2, e2], by simp [take_not h1, a3]⟩
theorem putM_in {F H : Hp} : ∀ {is : List Nat} {ms : List M} {vs : List V} {ts : List (List Addr)} {env env2 : Env} {σ : St} {O : List Addr}, z.Rel F H env σ O → putM is ms env = some env2 → RMs z F H ms vs ts → ts.flatten.Nodup → (∀ a ∈ ts.flatten, a ∉ O) → ms.all notLent = true →
    vs.length = is.length ∧ ∃ O2, z.Rel F H env2 (sets σ is vs) O2 ∧ (∀ a ∈ O2, a ∈ O ∨ a ∈ ts.flatten) ∧ Stay env env2 σ (sets σ is vs)
  | [], [], vs, ts, env, env2, σ, O, rel, h, rm, nd, dj, nl => by
    cases h
    rw [rm.1, rm.2]
    exact ⟨rfl, O, rel, fun _ h => .inl h, Stay.refl _ _⟩
  | i :: is, m :: ms, vs, ts, env, env2, σ, O, rel, h, rm, nd, dj, nl => by
    simp only [putM] at h
    obtain ⟨e1, h1, h2⟩ := Option.bind_eq_some_iff.mp h
    obtain ⟨v, r', x, y, e2, e3, g1, g2⟩ := rm
    subst e2 e3
    rw [List.flatten_cons] at nd dj
    obtain ⟨n1, n2, n3⟩ := List.nodup_append.mp nd
    simp only [List.all_cons, Bool.and_eq_true] at nl
    obtain ⟨O1, r1, l1, st1⟩ := put_in rel h1 g1 n1 (fun a ha => dj a (List.mem_append_left _ ha)) nl.1
    obtain ⟨hl, O2, r2, l2, st2⟩ := putM_in r1 h2 g2 n2 (fun a ha hm => by
      rcases l1 a hm with u | u
      · exact dj a (List.mem_append_right _ ha) u
      · exact n3 a u a ha rfl) nl.2
    refine ⟨by simp [hl], O2, r2, fun a ha => ?_, st1.trans st2⟩
    rw [List.flatten_cons]
    rcases l2 a ha with u | u
    · rcases l1 a u with w | w
      · exact .inl w
      · exact .inr (List.mem_append_left _ w)
    · exact .inr (List.mem_append_right _ u)
  | [], _ :: _, _, _, _, _, _, _, _, h, _, _, _, _ => by cases h
  | _ :: _, [], _, _, _, _, _, _, _, h, _, _, _, _ => by cases h
/-- what the values of a display are put into -/
theorem par_in {is : List Nat} {mes : Es} {D : Ends} {σ : St} {H : Hp} (h : trS z W r (.par is mes) D σ H) : trEs z W r mes σ H fun vs H1 => vs.length = is.length ∧ ∀ H2, Le H1 H2 → D.nx (sets σ is vs) H2 := by
  obtain ⟨F, O, env, rel, w⟩ := h
  rw [denS] at w
  refine ⟨F, O, env, rel, wO.o w (denEs_lm r mes env) fun qs env1 F1 H1 O1 _ s1 r1 k1 w1 => ?_⟩
  intro vs t hq ft
  dsimp only at w1
  cases g : takes qs with
  | none => rw [g] at w1; exact w1.elim
  | some ms =>
    rw [g] at w1
    dsimp only at w1
    obtain ⟨ts, a1, a2, a3⟩ := takes_in g hq
    cases hp : putM is ms env1 with
    | none => rw [hp] at w1; exact w1.elim
    | some env2 =>
      rw [hp] at w1
      obtain ⟨hl, O2, r2, l2, st2⟩ := putM_in r1 hp a1 (by rw [a2]; exact ft.1) (fun a ha => (ft.2 a (by rw [← a2]; exact ha)).1) a3
      refine ⟨hl, fun H2 lH => ?_⟩
      obtain ⟨s3, r3⟩ := Cz.Rel.ext r2 (Le.refl F1) lH (r2.le.trans lH) (fun _ _ h => .inl h)
      have s2 : Step F H O F1 H1 O2 := ⟨s1.grow, s1.keep, s1.froz, fun a ha => (by
        rcases l2 a ha with y | y
        · exact s1.ownd a y
        · exact .inr (ft.2 a (by rw [← a2]; exact y)).2), s1.there⟩
      exact w1 _ F1 H2 O2 (s2.trans s3) r3 (k1.trans st2)
theorem js_par2 {i j : Nat} {x y : Str} {a b : Expr} {mes : Es} {px py pt pos : Pos} {kt k2 pt2} (hc : X.calm = true) (hN : X.N.Nodup) (ha : PA X [a, b] (trEs z W r mes)) (hi : X.N[i]? = some x := by rfl) (hj : X.N[j]? = some y := by rfl) (hij : i ≠ j := by decide)
    (hx : X.env.scope.names.lookup x = some .local := by rfl) (hy : X.env.scope.names.lookup y = some .local := by rfl)
    (hw : swappedStores [.Tuple [.Name x px, .Name y py] kt pt] (.Tuple [a, b] k2 pt2) X.env = pure (some [x, y]) := by rfl)
    (hs : swapsWithSole [.Tuple [.Name x px, .Name y py] kt pt] (.Tuple [a, b] k2 pt2) pos.line X.env = pure false := by rfl) :
    PS X (.Assign [.Tuple [.Name x px, .Name y py] kt pt] (.Tuple [a, b] k2 pt2) pos) (trS z W r (.par [i, j] mes)) := PS.imp (ps_par hc hN hi hj hij hx hy ha hw hs) fun D σ H h => trEs.mono (par_in h) fun vs H1 ⟨hl, k⟩ => by
  match vs, hl, k with
  | [v, w'], _, k => exact ⟨v, w', rfl, k H1 (Le.refl _)⟩
theorem js_par3 {i j l : Nat} {x y u : Str} {a b c : Expr} {mes : Es} {px py pu pt pos : Pos} {kt k2 pt2} (hc : X.calm = true) (hN : X.N.Nodup) (ha : PA X [a, b, c] (trEs z W r mes)) (hi : X.N[i]? = some x := by rfl) (hj : X.N[j]? = some y := by rfl) (hl : X.N[l]? = some u := by rfl) (hij : i ≠ j := by decide) (hil : i ≠ l := by decide) (hjl : j ≠ l := by decide)
    (hx : X.env.scope.names.lookup x = some .local := by rfl) (hy : X.env.scope.names.lookup y = some .local := by rfl) (hu : X.env.scope.names.lookup u = some .local := by rfl)
    (hw : swappedStores [.Tuple [.Name x px, .Name y py, .Name u pu] kt pt] (.Tuple [a, b, c] k2 pt2) X.env = pure (some [x, y, u]) := by rfl)
    (hs : swapsWithSole [.Tuple [.Name x px, .Name y py, .Name u pu] kt pt] (.Tuple [a, b, c] k2 pt2) pos.line X.env = pure false := by rfl) :
    PS X (.Assign [.Tuple [.Name x px, .Name y py, .Name u pu] kt pt] (.Tuple [a, b, c] k2 pt2) pos) (trS z W r (.par [i, j, l] mes)) := PS.imp (ps_par3 hc hN hi hj hl hij hil hjl hx hy hu ha hw hs) fun D σ H h => trEs.mono (par_in h) fun vs H1 ⟨hl, k⟩ => by
  match vs, hl, k with
  | [v1, v2, v3], _, k => exact ⟨v1, v2, v3, rfl, k H1 (Le.refl _)⟩
theorem gNames_sets {Kn : St → Hp → Prop} : ∀ {is : List Nat} {vs : List V} {σ : St} {H : Hp}, vs.length = is.length → Kn (sets σ is vs) H → gNames is vs σ H Kn
  | [], [], _, _, _, h => ⟨rfl, h⟩
  | i :: is, v :: vs, σ, H, hl, h => ⟨v, vs, rfl, gNames_sets (by simpa using hl) h⟩
  | [], _ :: _, _, _, hl, _ => by simp at hl
  | _ :: _, [], _, _, hl, _ => by simp at hl
/-- .. where the pair is made and taken apart -/
theorem js_parT {is : List Nat} {tg : Expr} {es : List Expr} {mes : Es} {k2 : Nat} {pos pt2 : Pos} (ha : PA X es (trEs z W r mes)) (hg : PG X tg (gTup X.K is.length (gNames is))) (hz : is.length ≤ 1000 := by decide) (hs : swapsWithSole [tg] (.Tuple es k2 pt2) pos.line X.env = pure false := by rfl)
    (hw : swappedStores [tg] (.Tuple es k2 pt2) X.env = pure none := by rfl) (h1 : (assignEach [tg] X.env).map (·.2) = [assign tg X.env] := by rfl) : PS X (.Assign [tg] (.Tuple es k2 pt2) pos) (trS z W r (.par is mes)) :=
  PS.imp (ps_asg (pe_tup ha) hg hs hw h1) fun D σ H h => trEs.mono (par_in h) fun vs H1 ⟨hl, k⟩ => by
    refine ⟨by rw [hl, sizeLine_eq]; omega, fun p hp => ⟨p, vs, rfl, SqT.of upd_same, hl, gNames_sets hl (k _ (le_upd hp _))⟩⟩

/-! ### x op= e -/
/-- an operation of an int -/
def SpI (o : Op) (r2 : R2) : Prop := ∀ (F H : Hp) (n : Int) (d : D) (y : V) (w : Z) (K : VK), evalOp o [.int n, d] = some w → Rd1 F H d y → Le F H → Fin F H w K → r2 (.int n) y H K
theorem spI_of {o : Op} {p : Int → Int → Int} (h : ∀ n d w, evalOp o [.int n, d] = some w → ∃ m, d = .int m ∧ w = .val (.int (p n m))) : SpI o (rI0 fun i j => .int (p i j)) := fun F H n d y w K e g l f => by
  obtain ⟨m, rfl, rfl⟩ := h n d w e
  exact ⟨n, m, rfl, rInt g, f.leaf l pInt⟩
theorem spI_add : SpI .add (rI0 fun i j => .int (i + j)) := spI_of fun n d w e => by
  cases d <;> simp [evalOp] at e
  exact ⟨_, rfl, e.symm⟩
theorem spI_sub : SpI .sub (rI0 fun i j => .int (i - j)) := spI_of fun n d w e => by
  cases d <;> simp [evalOp] at e
  exact ⟨_, rfl, e.symm⟩
theorem js_aug {op : Operator} {o : Op} {r2 : R2} {i : Nat} {x : Str} {e : Expr} {me : E} {pos pos' : Pos} (hN : X.N.Nodup) (ho : OpR X (inplaceOp op) r2) (sp : SpI o r2) (he : PE X e (trE z W r me)) (hi : X.N[i]? = some x := by rfl) (hx : Loc X.env.scope x := by first | exact .inl rfl | exact .inr rfl)
    (hf : X.fn x = true ∨ X.env.scope.names.lookup x = some .local := by first | exact .inl rfl | exact .inr rfl) : PS X (.AugAssign (.Name x pos') op e pos) (trS z W r (.aug o i me)) :=
  PS.imp (ps_aug (ti := r2) hN hi hx he (fun pins s σ H x y v u Q I r1 r2 h => ho pins s σ H x y v u Q I r1 r2 h) hf) fun D σ H ⟨F, O, env, rel, w⟩ => by
    rw [denS] at w
    split at w
    · rename_i n hs
      obtain ⟨v, as, k1, k2, _⟩ := slot_val rel hs
      have ev : v = .int n := rInt (F := F) (H := H) (k2.2.rd rel.le)
      subst ev
      refine ⟨_, k1, F, O, env, rel, wO.o w (denE_lm r me env) fun q env1 F1 H1 O1 _ s1 r1 st1 w1 => ?_⟩
      intro y t hq ft
      dsimp only at w1
      cases g : q.get env1 with
      | none => rw [g] at w1; exact w1.elim
      | some d2 =>
        rw [g] at w1
        dsimp only at w1
        cases ev : evalOp o [.int n, d2] with
        | none => rw [ev] at w1; exact w1.elim
        | some zz =>
          rw [ev] at w1
          cases zz with
          | new xs => exact w1.elim
          | val z2 =>
            dsimp only at w1
            have rd : Rds F1 H1 [d2] [y] := gets_rd r1 (qs := [q]) (t := t) (by simp only [gets, g]) ⟨y, [], t, [], rfl, (List.append_nil t).symm, hq, rfl, rfl⟩
            obtain ⟨d', e1, g2⟩ := rds1 rd
            cases e1
            refine sp F1 H1 n d2 y _ _ ev g2 r1.le fun v' F' H' l1 l2 l3 kk rp => ?_
            obtain ⟨s2, r2⟩ := Cz.Rel.ext r1 l1 l2 l3 kk
            cases hp : put i (.val z2) env1 with
            | none => rw [hp] at w1; exact w1.elim
            | some env2 =>
              rw [hp] at w1
              obtain ⟨O3, r3, l4, st3⟩ := put_in r2 hp (v := v') (t := []) ⟨rfl, rp⟩ List.nodup_nil (fun _ h => (nomatch h)) rfl
              exact w1 _ F' H' O3 ((s1.trans s2).less fun a ha => (l4 a ha).resolve_right (fun h => nomatch h)) r3 (st1.trans st3)
    · exact w.elim
end
end Rx

/-! RxIt -/
/-! RxIt: what is walked: lists, tuples, ranges, enumerate, zip, reversed; for and while. -/
set_option linter.all false
set_option Elab.async false
set_option maxRecDepth 100000
set_option maxHeartbeats 4000000
namespace Rx
open PySem L2

/-- whose list is read turn by turn -/
def W.slot? : Rx.W → Option Nat
  | .vs _ => none
  | .own i | .enumOwn i => some i
/-- one turn -/
def WAt (J : It) (k : Nat) (F H : Hp) : Option (Option D) → Prop
  | some none => J.stop k H
  | some (some d) => J.go k H ∧ ∀ x H', J.yld k H x H' → ∃ F', Le F F' ∧ Le H H' ∧ Le F' H' ∧ (∀ a o, F' a = some o → F a = some o ∨ H a = none) ∧ Rep F' d x
  | none => True
/-- the iterator J tells what w tells, in each later state -/
def WOk (z : Cz) (F0 : Hp) (σ0 : St) (w : Rx.W) (J : It) : Prop :=
  ∀ F H env σ O k, Le F0 F → z.Rel F H env σ O → (∀ i, w.slot? = some i → σ[i]? = σ0[i]?) → WAt J k F H (w.at env k)

section
variable {X : Cx} {z : Cz} {W : WX} {r : Fs}
def trI (z : Cz) (W : WX) (r : Fs) (it : I) : TI := fun σ H R => ∃ F O env, z.Rel F H env σ O ∧ wX z W (denI r it env) F H O σ fun w F' H' O' => ∀ J, WOk z F' σ w J → R J H'

theorem wat_same {J : It} {k : Nat} {F H : Hp} {o : Option D} (l : Le F H) (h0 : o = none → J.stop k H) (h1 : ∀ d, o = some d → J.go k H ∧ ∀ x H', J.yld k H x H' → H' = H ∧ Rep F d x) : WAt J k F H (some o) := by
  cases o with
  | none => exact h0 rfl
  | some d => exact ⟨(h1 d rfl).1, fun x H' y => (by
      obtain ⟨e, rp⟩ := (h1 d rfl).2 x H' y
      subst e
      exact ⟨F, Le.refl _, Le.refl _, l, fun _ _ h => .inl h, rp⟩)⟩
theorem reps_none {F : Hp} {ds : List D} {vs : List V} {k : Nat} (h : Reps F ds vs) (e : ds[k]? = none) : vs.length ≤ k := by
  rw [h.len]
  exact List.getElem?_eq_none_iff.mp e
theorem wok_lst {K : PySem.W.Frag} {F0 : Hp} {σ0 : St} {a : Addr} {ds : List D} {vs : List V} (h : F0 a = some (.lst vs)) (rs : Reps F0 ds vs) : WOk z F0 σ0 (.vs ds) (Itl K a) := fun F H env σ O k l rel _ => by
  have q : SqL K H a vs := SqL.of (rel.le _ _ (l _ _ h))
  refine wat_same rel.le (fun e => ⟨vs, q, reps_none rs e⟩) fun d e => ?_
  obtain ⟨x, e1, rp⟩ := rs.get e
  refine ⟨⟨vs, x, q, e1⟩, fun y H' hy => ⟨hy.1, ?_⟩⟩
  have := hy.2 vs q
  rw [e1] at this
  cases this
  exact rp.mono l
theorem wok_tup {K : PySem.W.Frag} {F0 : Hp} {σ0 : St} {a : Addr} {ds : List D} {vs : List V} (h : F0 a = some (.tup vs)) (rs : Reps F0 ds vs) : WOk z F0 σ0 (.vs ds) (Itt K a) := fun F H env σ O k l rel _ => by
  have q : SqT K H a vs := SqT.of (rel.le _ _ (l _ _ h))
  refine wat_same rel.le (fun e => ⟨vs, q, reps_none rs e⟩) fun d e => ?_
  obtain ⟨x, e1, rp⟩ := rs.get e
  refine ⟨⟨vs, x, q, e1⟩, fun y H' hy => ⟨hy.1, ?_⟩⟩
  have := hy.2 vs q
  rw [e1] at this
  cases this
  exact rp.mono l
theorem wok_own {K : PySem.W.Frag} {F0 : Hp} {σ0 : St} {i : Nat} {a : Addr} (h : σ0[i]? = some (some (.ref a))) : WOk z F0 σ0 (.own i) (Itl K a) := fun F H env σ O k l rel hs => by
  have hs := hs i rfl
  rw [h] at hs
  show WAt _ k F H (match slot i env with
    | some (.own true xs) => some xs[k]?
    | _ => none)
  split
  · rename_i xs e
    obtain ⟨v, as, k1, k2, _⟩ := slot_val rel e
    rw [hs] at k1
    obtain ⟨b, vs, e1, _, h1, _, rs⟩ := k2
    rw [← Option.some.inj (Option.some.inj k1)] at e1
    cases e1
    have q : SqL K H a vs := SqL.of h1
    refine wat_same rel.le (fun e => ⟨vs, q, reps_none rs e⟩) fun d e => ?_
    obtain ⟨x, e1, rp⟩ := rs.get e
    refine ⟨⟨vs, x, q, e1⟩, fun y H' hy => ⟨hy.1, ?_⟩⟩
    have := hy.2 vs q
    rw [e1] at this
    cases this
    exact rp
  · trivial
theorem wok_rng {F0 : Hp} {σ0 : St} {lo : Int} {n : Nat} : WOk z F0 σ0 (.vs (rangeC lo 1 n)) (Itr lo n) := fun F H env σ O k l rel _ => by
  refine wat_same rel.le (fun e => ?_) fun d e => ?_
  · have := List.getElem?_eq_none_iff.mp e
    show n ≤ k
    simpa [rangeC] using this
  · have hk : k < n := by
      have := (List.getElem?_eq_some_iff.mp e).1
      simpa [rangeC] using this
    refine ⟨hk, fun x H' hy => ⟨hy.1, ?_⟩⟩
    have e2 : d = .int (lo + (k : Int) * 1) := by
      simp [rangeC] at e
      obtain ⟨m, hm, e⟩ := e
      rw [List.getElem?_range hk] at hm
      cases hm
      rw [← e]; simp
    rw [e2, hy.2]
    simp [Rep]
theorem enumL_get : ∀ (ds : List D) (j k : Nat), (enumL j ds)[k]? = (ds[k]?).map fun d => .tup [.int ((j + k : Nat) : Int), d]
  | [], j, k => by simp [enumL]
  | d :: ds, j, 0 => by simp [enumL]
  | d :: ds, j, k + 1 => by
    simp only [enumL, List.getElem?_cons_succ]
    rw [enumL_get ds (j + 1) k, show j + 1 + k = j + (k + 1) by omega]
theorem zipL_get : ∀ (xs ys : List D) (k : Nat), (zipL xs ys)[k]? = match xs[k]?, ys[k]? with
    | some x, some y => some (.tup [x, y])
    | _, _ => none
  | [], ys, k => by simp [zipL]
  | x :: xs, [], k => by
    cases (x :: xs)[k]? <;> simp [zipL]
  | x :: xs, y :: ys, 0 => by simp [zipL]
  | x :: xs, y :: ys, k + 1 => by
    simp only [zipL, List.getElem?_cons_succ]
    exact zipL_get xs ys k
/-- a pair that is made at the turn -/
theorem wat_pair {F H : Hp} {T : Addr} {x y : V} {d e : D} (l : Le F H) (hT : H T = none) (hx : Rep F d x) (hy : Rep F e y) :
    ∃ F', Le F F' ∧ Le H (upd H T (.tup [x, y])) ∧ Le F' (upd H T (.tup [x, y])) ∧ (∀ a o, F' a = some o → F a = some o ∨ H a = none) ∧ Rep F' (.tup [d, e]) (.ref T) := by
  have fT := not_in l hT
  refine ⟨upd F T (.tup [x, y]), le_upd fT _, le_upd hT _, le_upd2 l _, fun a o q => ?_, ?_⟩
  · by_cases c : a = T
    · subst c; exact .inr hT
    · rw [upd_ne c] at q; exact .inl q
  · simp only [Rep]
    have m := le_upd fT (.tup [x, y])
    exact ⟨T, [x, y], rfl, upd_same, Reps.cons (hx.mono m) (Reps.cons (hy.mono m) Reps.nil)⟩
theorem wok_enum {K : PySem.W.Frag} {F0 : Hp} {σ0 : St} {a : Addr} {ds : List D} {vs : List V} (h : F0 a = some (.lst vs)) (rs : Reps F0 ds vs) : WOk z F0 σ0 (.vs (enumL 0 ds)) (Ite K a) := fun F H env σ O k l rel _ => by
  have q : SqL K H a vs := SqL.of (rel.le _ _ (l _ _ h))
  show WAt _ k F H (some (enumL 0 ds)[k]?)
  rw [enumL_get]
  cases e : ds[k]? with
  | none => exact ⟨vs, q, reps_none rs e⟩
  | some d =>
    obtain ⟨x, e1, rp⟩ := rs.get e
    refine ⟨⟨vs, x, q, e1⟩, fun y H' hy => ?_⟩
    obtain ⟨T, x', ey, hT, eH, hx⟩ := hy
    have := hx vs q
    rw [e1] at this
    cases this
    subst ey eH
    rw [Nat.zero_add]
    exact wat_pair rel.le hT (by simp only [Rep]) (rp.mono l)
theorem wok_enumOwn {K : PySem.W.Frag} {F0 : Hp} {σ0 : St} {i : Nat} {a : Addr} (h : σ0[i]? = some (some (.ref a))) : WOk z F0 σ0 (.enumOwn i) (Ite K a) := fun F H env σ O k l rel hs => by
  have hs := hs i rfl
  rw [h] at hs
  show WAt _ k F H (match slot i env with
    | some (.own true xs) => some ((xs[k]?).map fun d => .tup [.int k, d])
    | _ => none)
  split
  · rename_i xs e
    obtain ⟨v, as, k1, k2, _⟩ := slot_val rel e
    rw [hs] at k1
    obtain ⟨b, vs, e1, _, h1, _, rs⟩ := k2
    rw [← Option.some.inj (Option.some.inj k1)] at e1
    cases e1
    have q : SqL K H a vs := SqL.of h1
    cases e : xs[k]? with
    | none => exact ⟨vs, q, reps_none rs e⟩
    | some d =>
      obtain ⟨x, e1, rp⟩ := rs.get e
      refine ⟨⟨vs, x, q, e1⟩, fun y H' hy => ?_⟩
      obtain ⟨T, x', ey, hT, eH, hx⟩ := hy
      have := hx vs q
      rw [e1] at this
      cases this
      subst ey eH
      exact wat_pair rel.le hT (by simp only [Rep]) rp
  · trivial
theorem wok_zipL {K : PySem.W.Frag} {F0 : Hp} {σ0 : St} {a b : Addr} {ds es : List D} {vs ws : List V} (h : F0 a = some (.lst vs)) (rs : Reps F0 ds vs) (h2 : F0 b = some (.lst ws)) (rs2 : Reps F0 es ws) : WOk z F0 σ0 (.vs (zipL ds es)) (Itz K a b) := fun F H env σ O k l rel _ => by
  have q : SqL K H a vs := SqL.of (rel.le _ _ (l _ _ h))
  have q2 : SqL K H b ws := SqL.of (rel.le _ _ (l _ _ h2))
  show WAt _ k F H (some (zipL ds es)[k]?)
  rw [zipL_get]
  cases e : ds[k]? with
  | none => exact ⟨vs, ws, q, q2, .inl (reps_none rs e)⟩
  | some d =>
    cases e' : es[k]? with
    | none => exact ⟨vs, ws, q, q2, .inr (reps_none rs2 e')⟩
    | some d' =>
      obtain ⟨x, e1, rp⟩ := rs.get e
      obtain ⟨x', e1', rp'⟩ := rs2.get e'
      refine ⟨⟨vs, ws, x, x', q, q2, e1, e1'⟩, fun y H' hy => ?_⟩
      obtain ⟨T, u, u', ey, hT, eH, hx, hx'⟩ := hy
      have := hx vs q
      rw [e1] at this
      cases this
      have := hx' ws q2
      rw [e1'] at this
      cases this
      subst ey eH
      exact wat_pair rel.le hT (rp.mono l) (rp'.mono l)
theorem wok_zipT {K : PySem.W.Frag} {F0 : Hp} {σ0 : St} {a b : Addr} {ds es : List D} {vs ws : List V} (h : F0 a = some (.tup vs)) (rs : Reps F0 ds vs) (h2 : F0 b = some (.tup ws)) (rs2 : Reps F0 es ws) : WOk z F0 σ0 (.vs (zipL ds es)) (RZ.ItzT K a b) := fun F H env σ O k l rel _ => by
  have q : SqT K H a vs := SqT.of (rel.le _ _ (l _ _ h))
  have q2 : SqT K H b ws := SqT.of (rel.le _ _ (l _ _ h2))
  show WAt _ k F H (some (zipL ds es)[k]?)
  rw [zipL_get]
  cases e : ds[k]? with
  | none => exact ⟨vs, ws, q, q2, .inl (reps_none rs e)⟩
  | some d =>
    cases e' : es[k]? with
    | none => exact ⟨vs, ws, q, q2, .inr (reps_none rs2 e')⟩
    | some d' =>
      obtain ⟨x, e1, rp⟩ := rs.get e
      obtain ⟨x', e1', rp'⟩ := rs2.get e'
      refine ⟨⟨vs, ws, x, x', q, q2, e1, e1'⟩, fun y H' hy => ?_⟩
      obtain ⟨T, u, u', ey, hT, eH, hx, hx'⟩ := hy
      have := hx vs q
      rw [e1] at this
      cases this
      have := hx' ws q2
      rw [e1'] at this
      cases this
      subst ey eH
      exact wat_pair rel.le hT (rp.mono l) (rp'.mono l)
theorem rev_get {ds : List D} {k : Nat} {d : D} (e : ds.reverse[k]? = some d) : k < ds.length ∧ ds[ds.length - 1 - k]? = some d := by
  have hk : k < ds.length := by
    have := (List.getElem?_eq_some_iff.mp e).1
    simpa using this
  rw [List.getElem?_reverse hk] at e
  exact ⟨hk, e⟩
theorem wok_revL {K : PySem.W.Frag} {F0 : Hp} {σ0 : St} {a : Addr} {ds : List D} {vs : List V} (h : F0 a = some (.lst vs)) (rs : Reps F0 ds vs) : WOk z F0 σ0 (.vs ds.reverse) (Itv K a vs.length) := fun F H env σ O k l rel _ => by
  have q : SqL K H a vs := SqL.of (rel.le _ _ (l _ _ h))
  refine wat_same rel.le (fun e => ?_) fun d e => ?_
  · have := List.getElem?_eq_none_iff.mp e
    show vs.length ≤ k
    rw [rs.len]
    simpa using this
  · obtain ⟨hk, e⟩ := rev_get e
    obtain ⟨x, e1, rp⟩ := rs.get e
    rw [← rs.len] at e1
    refine ⟨⟨by rw [rs.len]; exact hk, vs, x, q, e1⟩, fun y H' hy => ⟨hy.1, ?_⟩⟩
    have := hy.2 vs q
    rw [e1] at this
    cases this
    exact rp.mono l
theorem wok_revT {K : PySem.W.Frag} {F0 : Hp} {σ0 : St} {a : Addr} {ds : List D} {vs : List V} (h : F0 a = some (.tup vs)) (rs : Reps F0 ds vs) : WOk z F0 σ0 (.vs ds.reverse) (RT.ItvT K a vs.length) := fun F H env σ O k l rel _ => by
  have q : SqT K H a vs := SqT.of (rel.le _ _ (l _ _ h))
  refine wat_same rel.le (fun e => ?_) fun d e => ?_
  · have := List.getElem?_eq_none_iff.mp e
    show vs.length ≤ k
    rw [rs.len]
    simpa using this
  · obtain ⟨hk, e⟩ := rev_get e
    obtain ⟨x, e1, rp⟩ := rs.get e
    rw [← rs.len] at e1
    refine ⟨⟨by rw [rs.len]; exact hk, vs, x, q, e1⟩, fun y H' hy => ⟨hy.1, ?_⟩⟩
    have := hy.2 vs q
    rw [e1] at this
    cases this
    exact rp.mono l

/-! ### judgements -/
theorem PI.imp {X : Cx} {tg e : Expr} {t t' : TI} (h : PI X tg e t) (k : ∀ σ H R, t' σ H R → t σ H R) : PI X tg e t' := ⟨fun pins s σ H R I q => h.run pins s σ H R I (k σ H R q)⟩
def iSeqA (K : PySem.W.Frag) (tl : TE) : TI := fun σ H R => tl σ H fun x H1 => ∃ a xs, x = .ref a ∧ ((SqL K H1 a xs ∧ R (Itl K a) H1) ∨ (SqT K H1 a xs ∧ R (Itt K a) H1))
open PyProof.Rows PySem.Spec in
theorem pi_seqA {tg l : Expr} {tl : TE} (hl : PE X l tl) : PI X tg l (iSeqA X.K tl) := by
  refine ⟨fun pins s σ H R I h => ?_⟩
  refine thn (hl.run pins s σ H _ I h) fun v s1 ⟨x, H1, I1, r1, q1⟩ => ?_
  obtain ⟨a, xs, e, q⟩ := q1
  subst e
  cases r1
  have fresh : ∀ b ∈ [s1.heap.objs.size], FpOk X pins H1 b := fun b hb => by
    have e : b = s1.heap.objs.size := by simpa using hb
    subst e
    exact I1.fpOk (Nat.le_refl _) (I1.hok.fresh (Nat.le_refl _))
  rcases q with ⟨hq, q⟩ | ⟨hq, q⟩
  · obtain ⟨its, rv, p, hz⟩ := I1.list hq
    refine wpAny_pyIter_list p.isList ?_
    exact ⟨s1.heap.objs.size, [s1.heap.objs.size], _, _, H1, rfl, I1.kept (t' := s1.toks) fun b o e => Heap.get?_push_of_some _ e, turn_list a _, ⟨_, Heap.get?_push_size _ rfl, rfl, rfl⟩, fresh, q⟩
  · obtain ⟨its, rv, p, hz⟩ := I1.tuple hq
    refine wpAny_pyIter_tuple (show s1.heap.IsTuple a its.toArray from p) ?_
    exact ⟨s1.heap.objs.size, [s1.heap.objs.size], _, _, H1, rfl, I1.kept (t' := s1.toks) fun b o e => Heap.get?_push_of_some _ e, turn_tuple a _, ⟨_, Heap.get?_push_size _ rfl, rfl, rfl⟩, fresh, q⟩

theorem not_stop {α : Type} {a b : α} (h : some a = some b) : a = b := Option.some.inj h
theorem ji_seq {tg e : Expr} {me : E} (he : PE X e (trE z W r me)) : PI X tg e (trI z W r (.seq me)) := PI.imp (pi_seqA he) fun σ H R ⟨F, O, env, rel, w⟩ => by
  rw [denI] at w
  refine ⟨F, O, env, rel, wX.bind0 w fun q env1 F1 H1 O1 _ s1 r1 w1 => ?_⟩
  intro v t hq ft
  dsimp only at w1
  split at w1
  · rename_i i
    split at w1
    · rename_i xs hs
      obtain ⟨_, hv⟩ := hq
      obtain ⟨u, as, k1, k2, _⟩ := slot_val r1 hs
      rw [hv] at k1
      have e1 := Option.some.inj (Option.some.inj k1)
      obtain ⟨a, vs, e2, _, h1, _, rs⟩ := k2
      rw [← e1] at e2
      refine ⟨a, vs, e2, .inl ⟨SqL.of h1, w1 F1 H1 O1 s1 r1 _ (wok_own (by rw [hv, e2]))⟩⟩
    · rename_i xs hs
      obtain ⟨_, hv⟩ := hq
      obtain ⟨u, F2, O2, k1, st, r2, rp⟩ := froze r1 hs
      rw [hv] at k1
      have e1 := Option.some.inj (Option.some.inj k1)
      rw [← e1] at rp
      simp only [Rep] at rp
      obtain ⟨a, vs, e2, h1, rs⟩ := rp
      exact ⟨a, vs, e2, .inl ⟨SqL.of (r2.le _ _ h1), w1 F2 H1 O2 (s1.trans st) r2 _ (wok_lst h1 rs)⟩⟩
    · exact w1.elim
  · cases k : q.keep with
    | none => rw [k] at w1; exact w1.elim
    | some d =>
      rw [k] at w1
      dsimp only at w1
      obtain ⟨F2, rp, l1, l2, r2, kk⟩ := kept r1 hq ft k
      have s2 := kept_step s1 l1 kk
      cases d with
      | lst ds =>
        simp only [Rep] at rp
        obtain ⟨a, vs, e2, h1, rs⟩ := rp
        exact ⟨a, vs, e2, .inl ⟨SqL.of (l2 _ _ h1), w1 F2 H1 O1 s2 r2 _ (wok_lst h1 rs)⟩⟩
      | tup ds =>
        simp only [Rep] at rp
        obtain ⟨a, vs, e2, h1, rs⟩ := rp
        exact ⟨a, vs, e2, .inr ⟨SqT.of (l2 _ _ h1), w1 F2 H1 O1 s2 r2 _ (wok_tup h1 rs)⟩⟩
      | _ => exact w1.elim
theorem RQ.get_int {F H : Hp} {σ : St} {env : Env} {O : List Addr} {q : Q} {v : V} {t : List Addr} {n : Int} (rel : z.Rel F H env σ O) (hq : RQ z F H σ q v t) (g : q.get env = some (.int n)) : v = .int n := by
  have rd : Rds F H [.int n] [v] := gets_rd rel (qs := [q]) (t := t) (by simp only [gets, g]) ⟨v, [], t, [], rfl, (List.append_nil t).symm, hq, rfl, rfl⟩
  obtain ⟨d, e, h⟩ := rds1 rd
  cases e
  exact rInt h
theorem ji_rg1 {tg a : Expr} {ma : E} {p pos : Pos} (hg : Gl X "range") (hm : X.mg "range" = none) (ha : PE X a (trE z W r ma)) (hs : starEach [a] X.env = [(false, eval a X.env)] := by rfl) (hs1 : starEach [a] X.env = (false, eval a X.env) :: starEach [] X.env := by rfl) :
    PI X tg (.Call (.Name "range" p) [a] [] pos) (trI z W r (.rg1 ma)) := PI.imp (pi_range1 hg hm (pa_cons ha pa_nil hs1) hs) fun σ H R ⟨F, O, env, rel, w⟩ => by
  rw [denI] at w
  refine ⟨F, O, env, rel, wX.bind0 w fun q env1 F1 H1 O1 _ s1 r1 w1 => ?_⟩
  intro v t hq ft
  dsimp only at w1
  split at w1
  · rename_i n g
    have e := hq.get_int r1 g
    by_cases hb : -(2 ^ 60) ≤ n ∧ n ≤ 2 ^ 60
    · rw [if_pos hb] at w1
      exact ⟨n, by rw [e], by omega, by omega, w1 F1 H1 O1 s1 r1 _ wok_rng⟩
    · rw [if_neg hb] at w1; exact w1.elim
  · exact w1.elim
theorem ji_rg2 {tg a b : Expr} {ma mb : E} {p pos : Pos} (hg : Gl X "range") (hm : X.mg "range" = none) (ha : PE X a (trE z W r ma)) (hb : PE X b (trE z W r mb)) (hs : starEach [a, b] X.env = [(false, eval a X.env), (false, eval b X.env)] := by rfl) (hs2 : starEach [b] X.env = [(false, eval b X.env)] := by rfl)
    (hs3 : starEach [a, b] X.env = (false, eval a X.env) :: starEach [b] X.env := by rfl) (hs4 : starEach [b] X.env = (false, eval b X.env) :: starEach [] X.env := by rfl) :
    PI X tg (.Call (.Name "range" p) [a, b] [] pos) (trI z W r (.rg2 ma mb)) := PI.imp (pi_range2 hg hm (pa_cons ha (pa_cons hb pa_nil hs4) hs3) hs hs2) fun σ H R ⟨F, O, env, rel, w⟩ => by
  rw [denI] at w
  refine ⟨F, O, env, rel, wX.bind0 w fun q env1 F1 H1 O1 _ s1 r1 w1 => ?_⟩
  intro v t hq ft
  have n1 : ∀ a ∈ t, a ∉ O1 := fun a ha => (ft.2 a ha).1
  refine ⟨F1, O1, env1, r1, wX.bind0 (wX.shift s1 w1) fun q2 env2 F2 H2 O2 _ s2 r2 w2 => ?_⟩
  intro v2 t2 hq2 ft2
  dsimp only at w2
  split at w2
  · rename_i i j g1 g2
    have e1 := (hq.stay s2 r1.ofO n1).get_int r2 g1
    have e2 := hq2.get_int r2 g2
    by_cases hb : -(2 ^ 60) ≤ i ∧ i ≤ 2 ^ 60 ∧ -(2 ^ 60) ≤ j ∧ j ≤ 2 ^ 60
    · rw [if_pos hb] at w2
      exact ⟨i, j, by rw [e1, e2], ⟨by omega, by omega, by omega, by omega⟩, w2 F2 H2 O2 s2 r2 _ wok_rng⟩
    · rw [if_neg hb] at w2; exact w2.elim
  · exact w2.elim
theorem ji_zip {a b : Expr} {elts : List Expr} {kk : Nat} {tpos : Pos} {ma mb : E} {p pos : Pos} (hg : Gl X "zip") (hm : X.mg "zip" = none) (ha : PE X a (trE z W r ma)) (hb : PE X b (trE z W r mb)) (hs : starEach [a, b] X.env = (false, eval a X.env) :: starEach [b] X.env := by rfl) (hs2 : starEach [b] X.env = (false, eval b X.env) :: starEach [] X.env := by rfl)
    (hpl : (backTo pos (starEach [b] X.env)).any (·.1) = false := by rfl) :
    PI X (.Tuple elts kk tpos) (.Call (.Name "zip" p) [a, b] [] pos) (trI z W r (.zip ma mb)) := PI.imp (RZ.pi_zipA hg hm (pa_cons ha (pa_cons hb pa_nil hs2) hs) hs hpl) fun σ H R ⟨F, O, env, rel, w⟩ => by
  rw [denI] at w
  refine ⟨F, O, env, rel, wX.bind0 w fun q env1 F1 H1 O1 _ s1 r1 w1 => ?_⟩
  intro v t hq ft
  dsimp only at w1
  cases k : q.keep with
  | none => rw [k] at w1; exact w1.elim
  | some dx =>
    rw [k] at w1
    dsimp only at w1
    obtain ⟨F2, rp, l1, l2, r2, kk⟩ := kept r1 hq ft k
    have s2 := kept_step s1 l1 kk
    refine ⟨F2, O1, env1, r2, wX.bind0 (wX.shift s2 w1) fun q2 env2 F3 H3 O3 _ s3 r3 w3 => ?_⟩
    intro v2 t2 hq2 ft2
    dsimp only at w3
    cases k2 : q2.keep with
    | none => rw [k2] at w3; exact w3.elim
    | some dy =>
      rw [k2] at w3
      dsimp only at w3
      obtain ⟨F4, rp2, l3, l4, r4, kk2⟩ := kept r3 hq2 ft2 k2
      have s4 := kept_step s3 l3 kk2
      have rp := (rp.mono s3.grow).mono l3
      cases e : zip2 dx dy with
      | none => rw [e] at w3; exact w3.elim
      | some ds =>
        rw [e] at w3
        cases dx <;> cases dy <;> try (cases e; done)
        · cases e
          simp only [Rep] at rp rp2
          obtain ⟨a, vs, e1, h1, rs⟩ := rp
          obtain ⟨b, ws, e2, h2, rs2⟩ := rp2
          exact ⟨a, b, vs, ws, by rw [e1, e2], .inr ⟨SqT.of (l4 _ _ h1), SqT.of (l4 _ _ h2), w3 F4 H3 O3 s4 r4 _ (wok_zipT h1 rs h2 rs2)⟩⟩
        · cases e
          simp only [Rep] at rp rp2
          obtain ⟨a, vs, e1, h1, rs⟩ := rp
          obtain ⟨b, ws, e2, h2, rs2⟩ := rp2
          exact ⟨a, b, vs, ws, by rw [e1, e2], .inl ⟨SqL.of (l4 _ _ h1), SqL.of (l4 _ _ h2), w3 F4 H3 O3 s4 r4 _ (wok_zipL h1 rs h2 rs2)⟩⟩
theorem ji_rev {tg e : Expr} {me : E} {p pos : Pos} (hg : Gl X "reversed") (hm : X.mg "reversed" = none) (he : PE X e (trE z W r me)) (hs : starEach [e] X.env = (false, eval e X.env) :: starEach [] X.env := by rfl) : PI X tg (.Call (.Name "reversed" p) [e] [] pos) (trI z W r (.rev me)) :=
  PI.imp (RT.pi_revA hg hm he hs) fun σ H R ⟨F, O, env, rel, w⟩ => by
  rw [denI] at w
  refine ⟨F, O, env, rel, wX.bind0 w fun q env1 F1 H1 O1 _ s1 r1 w1 => ?_⟩
  intro v t hq ft
  dsimp only at w1
  cases k : q.keep with
  | none => rw [k] at w1; exact w1.elim
  | some d =>
    rw [k] at w1
    dsimp only at w1
    obtain ⟨F2, rp, l1, l2, r2, kk⟩ := kept r1 hq ft k
    have s2 := kept_step s1 l1 kk
    cases d with
    | lst ds =>
      simp only [Rep] at rp
      obtain ⟨a, vs, e2, h1, rs⟩ := rp
      exact ⟨a, vs, e2, .inl ⟨SqL.of (l2 _ _ h1), w1 F2 H1 O1 s2 r2 _ (wok_revL h1 rs)⟩⟩
    | tup ds =>
      simp only [Rep] at rp
      obtain ⟨a, vs, e2, h1, rs⟩ := rp
      exact ⟨a, vs, e2, .inr ⟨SqT.of (l2 _ _ h1), w1 F2 H1 O1 s2 r2 _ (wok_revT h1 rs)⟩⟩
    | _ => exact w1.elim

/-! ### for -/
theorem js_for {tg iter : Expr} {body : List Stmt} {t : T} {it : I} {mb : Ss} {pos : Pos} (hp : PassesOwn (model X.prog X.w) X.A X.env X.xe) (hc : X.calm = true) (hi : PI X tg iter (trI z W r it)) (hg : PG X tg (gT X.K t)) (hb : PSs X body (trSs z W r mb))
    (hs : ∀ x, foldedSetIterable iter X.env x = pure x := by intro _; rfl) : PS X (.For tg iter body [] pos) (trS z W r (.for_ t it mb)) := PS.imp (ps_for hp hc hi hg hb hs) fun Dn σ H ⟨F, O, env, rel, w⟩ => by
  rw [denS] at w
  refine ⟨F, O, env, rel, wO.o w (denI_lm r it env) fun wk env1 F1 H1 O1 _ s1 r1 k1 w1 => ?_⟩
  intro J wok
  dsimp only at w1
  refine ⟨fun k m σ' H' => ∃ F' O' env', Le F1 F' ∧ z.Rel F' H' env' σ' O' ∧ Stay env1 env' σ σ' ∧ wO z W (forF t wk (denSs r mb) m k env') F' H' O' σ' env' Dn, ⟨_, F1, O1, env1, Le.refl _, r1, Stay.refl _ _, wO.shift s1 k1 w1⟩, ?_⟩
  rintro k m σ2 H2 ⟨F2, O2, env2, l2, r2, st2, w2⟩
  have same : ∀ d, wk.at env2 k = some d → ∀ i, wk.slot? = some i → σ2[i]? = σ[i]? := fun d hd i hi => by
    refine (st2 i ?_).2
    have key : ∃ xs, slot i env2 = some (.own true xs) := by
      cases wk with
      | vs xs => cases hi
      | own j =>
        cases hi
        simp only [Rx.W.at] at hd
        split at hd
        · exact ⟨_, ‹_›⟩
        · cases hd
      | enumOwn j =>
        cases hi
        simp only [Rx.W.at] at hd
        split at hd
        · exact ⟨_, ‹_›⟩
        · cases hd
    obtain ⟨xs, e⟩ := key
    exact lent_of e rfl
  cases m with
  | zero => exact w2.elim
  | succ n =>
    unfold forF at w2
    cases ha : wk.at env2 k with
    | none => rw [ha] at w2; exact w2.elim
    | some o =>
      have at_ := wok F2 H2 env2 σ2 O2 k l2 r2 (same o ha)
      rw [ha] at w2 at_
      cases o with
      | none => exact .inl ⟨at_, w2 σ2 F2 H2 O2 (Step.refl _ _ _) r2 (Stay.refl _ _)⟩
      | some d =>
        dsimp only at w2
        obtain ⟨go, yl⟩ := at_
        refine .inr ⟨go, fun σ' H' => ∃ F' O' env', Le F1 F' ∧ z.Rel F' H' env' σ' O' ∧ Stay env1 env' σ σ' ∧ wO z W (forF t wk (denSs r mb) n (k + 1) env') F' H' O' σ' env' Dn, fun σ' H' q => ⟨n, Nat.lt_succ_self n, q⟩, fun x H3 hy => ?_⟩
        obtain ⟨F3, lF, lH, lFH, kk, rp⟩ := yl x H3 hy
        obtain ⟨s3, r3⟩ := Cz.Rel.ext r2 lF lH lFH kk
        cases hp : t.put (some (.val d)) env2 with
        | none => rw [hp] at w2; exact w2.elim
        | some env3 =>
          rw [hp] at w2
          dsimp only at w2
          refine tput_in r3 hp (v := x) (tA := []) ⟨rfl, rp⟩ List.nodup_nil (fun _ h => (nomatch h)) rfl fun σ4 O4 r4 l4 st4 => ?_
          have s4 : Step F2 H2 O2 F3 H3 O4 := s3.less fun a ha => (l4 a ha).resolve_right (fun h => nomatch h)
          refine ⟨F3, O4, env3, r4, ?_⟩
          have go_on : ∀ {env5 : Env} {σ5 : St} {F5 H5 : Hp} {O5 : List Addr}, wO z W (forF t wk (denSs r mb) n (k + 1) env5) F2 H2 O2 σ2 env2 Dn → Step F3 H3 O4 F5 H5 O5 → z.Rel F5 H5 env5 σ5 O5 → Stay env3 env5 σ4 σ5 →
              ∃ F' O' env', Le F1 F' ∧ z.Rel F' H5 env' σ5 O' ∧ Stay env1 env' σ σ5 ∧ wO z W (forF t wk (denSs r mb) n (k + 1) env') F' H5 O' σ5 env' Dn := fun {env5 σ5 F5 H5 O5} w5 s5 r5 st5 =>
            ⟨F5, O5, env5, l2.trans (s4.trans s5).grow, r5, st2.trans (st4.trans st5), wO.shift (s4.trans s5) (st4.trans st5) w5⟩
          cases e : denSs r mb env3 with
          | stuck => rw [e] at w2; exact w2.elim
          | nx env5 =>
            rw [e] at w2
            exact fun σ5 F5 H5 O5 s5 r5 st5 => go_on w2 s5 r5 st5
          | ct env5 =>
            rw [e] at w2
            exact fun σ5 F5 H5 O5 s5 r5 st5 => go_on w2 s5 r5 st5
          | bk env5 =>
            rw [e] at w2
            exact fun σ5 F5 H5 O5 s5 r5 st5 => w2 σ5 F5 H5 O5 (s4.trans s5) r5 (st4.trans st5)
          | rt m env5 =>
            rw [e] at w2
            exact wO.shift s4 st4 (x := .rt m env5) w2
          | exc c d env5 =>
            rw [e] at w2
            exact wO.shift s4 st4 (x := .exc c d env5) (D := Dn) w2

/-! ### while -/
theorem js_while {c : Expr} {body : List Stmt} {μ : Env → Nat} {mc : E} {mb : Ss} {pos : Pos} (hp : PassesOwn (model X.prog X.w) X.A X.env X.xe) (hc : PT X c (trT z W r mc)) (hb : PSs X body (trSs z W r mb)) : PS X (.While c body [] pos) (trS z W r (.wh μ mc mb)) := PS.imp (ps_while hp hc hb) fun Dn σ H ⟨F, O, env, rel, w⟩ => by
  rw [denS] at w
  refine ⟨fun m σ' H' => ∃ F' O' env', z.Rel F' H' env' σ' O' ∧ wO z W (whF (denT r mc) (denSs r mb) m env') F' H' O' σ' env' Dn, ⟨_, F, O, env, rel, w⟩, ?_⟩
  rintro m σ2 H2 ⟨F2, O2, env2, r2, w2⟩
  cases m with
  | zero => exact w2.elim
  | succ n =>
    unfold whF at w2
    refine ⟨F2, O2, env2, r2, ?_⟩
    have lm := denT_lm r mc env2
    cases e : denT r mc env2 with
    | stuck => rw [e] at w2; exact w2
    | exc cc d env3 =>
      rw [e] at w2
      exact fun F' H' O' dx v s r rp hd => w2 σ2 F' H' O' dx v s r (LM.stay (by rw [e] at lm; exact lm) σ2) rp hd
    | ok p =>
      obtain ⟨b, env3⟩ := p
      rw [e] at w2 lm
      intro F3 H3 O3 s3 r3
      have st3 : Stay env2 env3 σ2 σ2 := LM.stay lm σ2
      cases b with
      | false =>
        exact iteF (w2 σ2 F3 H3 O3 s3 r3 st3)
      | true =>
        refine iteT ⟨fun σ' H' => ∃ F' O' env', z.Rel F' H' env' σ' O' ∧ wO z W (whF (denT r mc) (denSs r mb) n env') F' H' O' σ' env' Dn, fun σ' H' q => ⟨n, Nat.lt_succ_self n, q⟩, F3, O3, env3, r3, ?_⟩
        dsimp only at w2
        have go_on : ∀ {env5 : Env} {σ5 : St} {F5 H5 : Hp} {O5 : List Addr}, wO z W (whF (denT r mc) (denSs r mb) n env5) F2 H2 O2 σ2 env2 Dn → Step F3 H3 O3 F5 H5 O5 → z.Rel F5 H5 env5 σ5 O5 → Stay env3 env5 σ2 σ5 →
            ∃ F' O' env', z.Rel F' H5 env' σ5 O' ∧ wO z W (whF (denT r mc) (denSs r mb) n env') F' H5 O' σ5 env' Dn := fun {env5 σ5 F5 H5 O5} w5 s5 r5 st5 =>
          ⟨F5, O5, env5, r5, wO.shift (s3.trans s5) (st3.trans st5) w5⟩
        cases e2 : denSs r mb env3 with
        | stuck => rw [e2] at w2; exact w2.elim
        | nx env5 =>
          rw [e2] at w2
          exact fun σ5 F5 H5 O5 s5 r5 st5 => go_on w2 s5 r5 st5
        | ct env5 =>
          rw [e2] at w2
          exact fun σ5 F5 H5 O5 s5 r5 st5 => go_on w2 s5 r5 st5
        | bk env5 =>
          rw [e2] at w2
          exact fun σ5 F5 H5 O5 s5 r5 st5 => w2 σ5 F5 H5 O5 (s3.trans s5) r5 (st3.trans st5)
        | rt m env5 =>
          rw [e2] at w2
          exact wO.shift s3 st3 (x := .rt m env5) w2
        | exc c d env5 =>
          rw [e2] at w2
          exact wO.shift s3 st3 (x := .exc c d env5) (D := Dn) w2
end
end Rx

/-! RxComp -/
/-! RxComp: list comprehensions. -/
set_option linter.all false
set_option Elab.async false
set_option maxRecDepth 100000
set_option maxHeartbeats 4000000
namespace Rx
open PySem L2

def T.slots : T → List Nat
  | .nm i => [i]
  | .tp is => is
  | .tpp i is => i :: is
/-- no error is let out -/
def Wf : WX := fun _ _ _ _ => False

theorem wipe_at {σ : St} {i : Nat} : ∀ {vs : List Nat}, (L2.wipe σ vs)[i]? = if i ∈ vs then (σ[i]?).map (fun _ => none) else σ[i]?
  | [] => by simp [L2.wipe]
  | v :: vs => by
    unfold L2.wipe
    by_cases h : i = v
    · subst h
      rw [if_pos List.mem_cons_self]
      by_cases hl : i < (L2.wipe σ vs).length
      · rw [List.getElem?_set_self hl]
        rw [wipe_length] at hl
        rw [List.getElem?_eq_getElem hl]; rfl
      · rw [List.getElem?_eq_none (by simpa using hl)]
        rw [wipe_length] at hl
        rw [List.getElem?_eq_none (by simpa using hl)]; rfl
    · rw [List.getElem?_set_ne (Ne.symm h), wipe_at]
      simp [h]
theorem wipe_eq {σ σ' : St} {vs : List Nat} (hl : σ'.length = σ.length) (h : ∀ i, i ∉ vs → σ'[i]? = σ[i]?) : L2.wipe σ' vs = L2.wipe σ vs := by
  apply List.ext_getElem?
  intro i
  rw [wipe_at, wipe_at]
  by_cases c : i ∈ vs
  · rw [if_pos c, if_pos c]
    by_cases hi : i < σ.length
    · rw [List.getElem?_eq_getElem hi, List.getElem?_eq_getElem (by omega)]; rfl
    · rw [List.getElem?_eq_none (by omega), List.getElem?_eq_none (by omega)]
  · rw [if_neg c, if_neg c, h i c]
theorem wipe_len {env : Env} : ∀ {vs : List Nat}, (Rx.wipe env vs).length = env.length
  | [] => rfl
  | v :: vs => by unfold Rx.wipe; rw [List.length_set, wipe_len]
theorem slot_wipe {env : Env} {i : Nat} : ∀ {vs : List Nat}, slot i (Rx.wipe env vs) = if i ∈ vs then none else slot i env
  | [] => by simp [Rx.wipe]
  | v :: vs => by
    unfold Rx.wipe
    rw [slot_set, slot_wipe]
    by_cases h : i = v
    · subst h
      by_cases hl : i < (Rx.wipe env vs).length
      · simp [hl]
      · simp only [hl, and_false, if_false, List.mem_cons_self, if_true]
        split
        · rfl
        · unfold slot
          have : (Rx.wipe env vs).length = env.length := wipe_len
          rw [List.getElem?_eq_none (by omega)]; rfl
    · simp [h]
theorem back_len {e0 env : Env} : ∀ {vs : List Nat}, (back e0 env vs).length = env.length
  | [] => rfl
  | v :: vs => by unfold back; rw [List.length_set, back_len]
theorem slot_back {e0 env : Env} (hl : env.length = e0.length) {i : Nat} : ∀ {vs : List Nat}, slot i (back e0 env vs) = if i ∈ vs then slot i e0 else slot i env
  | [] => by simp [back]
  | v :: vs => by
    unfold back
    rw [slot_set, slot_back hl, back_len]
    by_cases h : i = v
    · subst h
      by_cases hi : i < env.length
      · simp only [hi, and_self, if_true, List.mem_cons_self]; rfl
      · simp only [hi, and_false, if_false, List.mem_cons_self, if_true]
        split
        · rfl
        · unfold slot
          rw [List.getElem?_eq_none (by omega), List.getElem?_eq_none (by omega)]
    · simp [h]

section
variable {X : Cx} {z : Cz} {W : WX} {r : Fs}
theorem wipe_own {F H : Hp} {env : Env} {σ : St} {A : Nat → List Addr} {vs : List Nat} (h : Own z F H env σ A) : Own z F H (Rx.wipe env vs) (L2.wipe σ vs) (fun i => if i ∈ vs then [] else A i) where
  len := by rw [wipe_len, wipe_length]; exact h.len
  at_ := fun i m e => by
    rw [slot_wipe] at e
    by_cases c : i ∈ vs
    · rw [if_pos c] at e; cases e
    · rw [if_neg c] at e
      obtain ⟨v, k1, k2⟩ := h.at_ i m e
      exact ⟨v, by rw [wipe_at, if_neg c]; exact k1, by rw [if_neg c]; exact k2⟩
  non := fun i e => by
    rw [slot_wipe] at e
    by_cases c : i ∈ vs
    · exact if_pos c
    · rw [if_neg c] at e
      simp only [if_neg c]
      exact h.non i e
  one := fun i j a hi hj => by
    by_cases c : i ∈ vs
    · simp [c] at hi
    · by_cases c2 : j ∈ vs
      · simp [c2] at hj
      · simp only [if_neg c] at hi; simp only [if_neg c2] at hj
        exact h.one i j a hi hj
  nd := fun i => by
    by_cases c : i ∈ vs
    · simp [c]
    · simp only [if_neg c]; exact h.nd i
theorem wipe_rel {F H : Hp} {env : Env} {σ : St} {O : List Addr} {vs : List Nat} (rel : z.Rel F H env σ O) : ∃ O', z.Rel F H (Rx.wipe env vs) (L2.wipe σ vs) O' ∧ ∀ a ∈ O', a ∈ O := by
  obtain ⟨A, own, hA⟩ := Rel.own rel
  obtain ⟨O', r', hO'⟩ := (wipe_own (vs := vs) own).rel rel.le
  refine ⟨O', r', fun a ha => ?_⟩
  obtain ⟨i, hi⟩ := (hO' a).mp ha
  by_cases c : i ∈ vs
  · simp [c] at hi
  · simp only [if_neg c] at hi
    exact (hA a).mpr ⟨i, hi⟩
/-- a list that is nobody's changes -/
theorem Cz.Rel.out {F H : Hp} {env : Env} {σ : St} {O : List Addr} {a : Addr} {xs : List V} (rel : z.Rel F H env σ O) (h : H a = some (.lst xs)) (n : a ∉ O) (f : F a = none) (ys : List V) : z.Rel F (upd H a (.lst ys)) env σ O := by
  refine ⟨fun b o q => ?_, RSs.map rel.ss fun m v bs q hq => ?_, rel.nd⟩
  · rw [upd_ne (fun e => by subst e; rw [f] at q; cases q)]; exact rel.le _ _ q
  · exact RM.stay (O := [a]) (O' := []) ⟨Le.refl F, fun b u q hb => by rw [upd_ne (fun e => hb (by subst e; exact List.mem_cons_self))]; exact q, fun b u q => .inl q, fun _ h => (nomatch h), fun b u q => by
      by_cases e : b = a
      · subst e; exact ⟨_, upd_same⟩
      · exact ⟨u, by rw [upd_ne e]; exact q⟩⟩ (fun b hb => by cases List.mem_singleton.mp hb; exact ⟨xs, h⟩) q fun b hb e => by
        cases List.mem_singleton.mp e
        exact n (hq _ hb)

/-- what a target leaves as it is -/
theorem gNames_use {Kn : St → Hp → Prop} : ∀ {is : List Nat} {vs : List V} {σ : St} {H : Hp}, gNames is vs σ H (fun σ2 H2 => (σ2.length = σ.length ∧ ∀ i, i ∉ is → σ2[i]? = σ[i]?) → Kn σ2 H2) → gNames is vs σ H Kn
  | [], vs, σ, H, h => ⟨h.1, h.2 ⟨rfl, fun _ _ => rfl⟩⟩
  | j :: is, vs, σ, H, h => by
    obtain ⟨v, r', e, h2⟩ := h
    refine ⟨v, r', e, gNames_use (is := is) (σ := σ.set j (some v)) ?_⟩
    have mono : ∀ {is : List Nat} {vs : List V} {σ : St} {H : Hp} {K1 K2 : St → Hp → Prop}, (∀ σ2 H2, K1 σ2 H2 → K2 σ2 H2) → gNames is vs σ H K1 → gNames is vs σ H K2 := by
      intro is
      induction is with
      | nil => intro vs σ H K1 K2 k h; exact ⟨h.1, k _ _ h.2⟩
      | cons i is ih =>
        intro vs σ H K1 K2 k h
        obtain ⟨v, r', e, h2⟩ := h
        exact ⟨v, r', e, ih k h2⟩
    refine mono (fun σ2 H2 q q2 => q ⟨by rw [q2.1, List.length_set], fun i hi => ?_⟩) h2
    rw [q2.2 i (fun x => hi (List.mem_cons_of_mem _ x)), List.getElem?_set_ne (fun e => hi (by rw [e]; exact List.mem_cons_self))]
theorem gNames_mono {K1 K2 : St → Hp → Prop} (k : ∀ σ2 H2, K1 σ2 H2 → K2 σ2 H2) : ∀ {is : List Nat} {vs : List V} {σ : St} {H : Hp}, gNames is vs σ H K1 → gNames is vs σ H K2
  | [], _, _, _, h => ⟨h.1, k _ _ h.2⟩
  | i :: is, vs, σ, H, h => by
    obtain ⟨v, r', e, h2⟩ := h
    exact ⟨v, r', e, gNames_mono k (is := is) h2⟩
theorem gT_use {Kf : PySem.W.Frag} {Kn : St → Hp → Prop} {t : T} {v : V} {σ : St} {H : Hp} (h : gT Kf t v σ H fun σ2 H2 => (σ2.length = σ.length ∧ ∀ i, i ∉ t.slots → σ2[i]? = σ[i]?) → Kn σ2 H2) : gT Kf t v σ H Kn := by
  cases t with
  | nm i => exact h ⟨List.length_set, fun j hj => List.getElem?_set_ne (fun e => hj (by rw [e]; exact List.mem_cons_self))⟩
  | tp is =>
    obtain ⟨a, xs, e, q, l, h2⟩ := h
    exact ⟨a, xs, e, q, l, gNames_use h2⟩
  | tpp i is =>
    obtain ⟨a, xs, e, q, l, v1, r1, e1, v2, r2, e2, b, ys, e3, q3, l3, h3⟩ := h
    refine ⟨a, xs, e, q, l, v1, r1, e1, v2, r2, e2, b, ys, e3, q3, l3, gNames_use (gNames_mono (fun σ2 H2 k q => ?_) h3)⟩
    obtain ⟨k1, k2⟩ := k
    exact ⟨k1, k2 ⟨by rw [q.1, List.length_set], fun j hj => by
      rw [q.2 j (fun x => hj (List.mem_cons_of_mem _ x)), List.getElem?_set_ne (fun e => hj (by rw [e]; exact List.mem_cons_self))]⟩⟩

def trC (z : Cz) (r : Fs) : C → TT
  | .yes => tYes
  | .one e => trT z Wf r e
theorem trC_in {c : C} {F H : Hp} {O : List Addr} {env : Env} {σ : St} {K : Bool → Hp → Prop} (rel : z.Rel F H env σ O) (w : wX z Wf (denC r c env) F H O σ fun q F' H' O' => ∀ b, q = .mv (.val (.bl b)) → K b H') : trC z r c σ H K := by
  cases c with
  | yes => exact w F H O (Step.refl _ _ _) rel true rfl
  | one e =>
    have w' : wX z Wf (denG r e true env) F H O σ fun q F' H' O' => ∀ b, q = .mv (.val (.bl b)) → K b H' := w
    rw [denG_T] at w'
    exact ⟨F, O, env, rel, wX.bind w' fun b env1 F1 H1 O1 _ s1 r1 w1 => w1 F1 H1 O1 (Step.refl _ _ _) r1 b rfl⟩

theorem comp_in {Kf : PySem.W.Frag} {t : T} {vs : List Nat} {it : I} {c : C} {e : E} {σ : St} {H : Hp} {K : VK} (hts : ∀ i ∈ t.slots, i ∈ vs) (h : trE z W r (.comp t vs it c e) σ H K) : tLc (trI z W r it) (gT Kf t) (trC z r c) (trE z Wf r e) vs σ H K := by
  obtain ⟨F, O, env, rel, w⟩ := h
  rw [denE_comp] at w
  refine ⟨F, O, env, rel, wX.bind0 w fun wk env1 F1 H1 O1 _ s1 r1 w1 => ?_⟩
  intro J wok Dn hD
  dsimp only at w1
  by_cases hcl : clear env1 vs = true
  · rw [if_pos hcl] at w1
    obtain ⟨A0, own0, hA0⟩ := Rel.own r1
    obtain ⟨Ow, rw_, hOw⟩ := (wipe_own (vs := vs) own0).rel r1.le
    have hOw1 : ∀ a ∈ Ow, a ∈ O1 := fun a ha => by
      obtain ⟨i, hi⟩ := (hOw a).mp ha
      by_cases cc : i ∈ vs
      · simp [cc] at hi
      · simp only [if_neg cc] at hi
        exact (hA0 a).mpr ⟨i, hi⟩
    generalize hfin : compF t vs wk (denC r c) (denG r e false) (wk.len env1 + 1) 0 [] (Rx.wipe env1 vs) = fin at w1
    have fD : F1 Dn = none := not_in r1.le hD
    have lD : Le H1 (upd H1 Dn (.lst [])) := le_upd hD _
    refine ⟨fun k m H' => ∃ F' O2 env' acc accV, Step F1 H1 Ow F' H' O2 ∧ z.Rel F' H' env' (L2.wipe σ vs) O2 ∧ Dn ∉ O2 ∧ F' Dn = none ∧ H' Dn = some (.lst accV) ∧ Reps F' acc accV ∧ (∀ i ∈ vs, slot i env' = none) ∧ compF t vs wk (denC r c) (denG r e false) m k acc env' = fin, ?_, ?_⟩
    · obtain ⟨s2, r2⟩ := Cz.Rel.ext rw_ (Le.refl F1) lD (rw_.le.trans lD) (fun _ _ h => .inl h)
      refine ⟨_, F1, Ow, Rx.wipe env1 vs, [], [], s2, r2, fun hm => ?_, fD, upd_same, Reps.nil, fun i hi => by rw [slot_wipe, if_pos hi], hfin⟩
      obtain ⟨xs, q⟩ := rw_.ofO Dn hm
      rw [hD] at q; cases q
    · rintro k m H2 ⟨F2, O2, env2, acc, accV, s2, r2, nD, fD2, hD2, ra, hv, heq⟩
      cases m with
      | zero =>
        have : fin = .stuck := heq.symm
        subst this
        exact w1.elim
      | succ n =>
        unfold compF at heq
        cases ha : wk.at env2 k with
        | none => rw [ha] at heq; subst heq; exact w1.elim
        | some o =>
          have hsl : ∀ i, wk.slot? = some i → (L2.wipe σ vs)[i]? = σ[i]? := fun i hi => by
            have nv : i ∉ vs := fun hm => by
              have hn := hv i hm
              cases wk with
              | vs xs => cases hi
              | own j =>
                cases hi
                simp only [Rx.W.at, hn] at ha
                cases ha
              | enumOwn j =>
                cases hi
                simp only [Rx.W.at, hn] at ha
                cases ha
            rw [wipe_at, if_neg nv]
          have at_ := wok F2 H2 env2 (L2.wipe σ vs) O2 k s2.grow r2 hsl
          rw [ha] at heq at_
          cases o with
          | none =>
            dsimp only at heq
            subst heq
            refine .inl ⟨at_, ?_⟩
            -- what was wiped is back
            obtain ⟨A2, own2, hA2⟩ := Rel.own r2
            have hlen : env2.length = env1.length := by rw [← own2.len, wipe_length, own0.len]
            have ownB : Own z F2 H2 (back env1 env2 vs) σ (fun i => if i ∈ vs then A0 i else A2 i) := by
              refine ⟨by rw [back_len, hlen]; exact own0.len, fun i m e => ?_, fun i e => ?_, fun i j a hi hj => ?_, fun i => ?_⟩
              · rw [slot_back hlen] at e
                by_cases cc : i ∈ vs
                · rw [if_pos cc] at e
                  obtain ⟨v, k1, k2⟩ := own0.at_ i m e
                  refine ⟨v, k1, ?_⟩
                  simp only [if_pos cc]
                  refine RM.stay s2 rw_.ofO k2 fun a ha hm => ?_
                  obtain ⟨j, hj⟩ := (hOw a).mp hm
                  by_cases c2 : j ∈ vs
                  · simp [c2] at hj
                  · simp only [if_neg c2] at hj
                    have := own0.one i j a ha hj
                    subst this
                    exact c2 cc
                · rw [if_neg cc] at e
                  obtain ⟨v, k1, k2⟩ := own2.at_ i m e
                  rw [wipe_at, if_neg cc] at k1
                  exact ⟨v, k1, by simp only [if_neg cc]; exact k2⟩
              · rw [slot_back hlen] at e
                by_cases cc : i ∈ vs
                · rw [if_pos cc] at e; simp only [if_pos cc]; exact own0.non i e
                · rw [if_neg cc] at e; simp only [if_neg cc]; exact own2.non i e
              · -- what was put away and what came are apart
                have apart : ∀ i j a, i ∈ vs → a ∈ A0 i → a ∈ A2 j → False := fun i j a hi ha hj => by
                  rcases s2.ownd a ((hA2 a).mpr ⟨j, hj⟩) with y | y
                  · obtain ⟨l, hl⟩ := (hOw a).mp y
                    by_cases c2 : l ∈ vs
                    · simp [c2] at hl
                    · simp only [if_neg c2] at hl
                      have := own0.one i l a ha hl
                      subst this
                      exact c2 hi
                  · obtain ⟨xs, q⟩ := r1.ofO a ((hA0 a).mpr ⟨i, ha⟩)
                    rw [y] at q; cases q
                by_cases ci : i ∈ vs
                · by_cases cj : j ∈ vs
                  · simp only [if_pos ci] at hi; simp only [if_pos cj] at hj
                    exact own0.one i j a hi hj
                  · simp only [if_pos ci] at hi; simp only [if_neg cj] at hj
                    exact (apart i j a ci hi hj).elim
                · by_cases cj : j ∈ vs
                  · simp only [if_neg ci] at hi; simp only [if_pos cj] at hj
                    exact (apart j i a cj hj hi).elim
                  · simp only [if_neg ci] at hi; simp only [if_neg cj] at hj
                    exact own2.one i j a hi hj
              · by_cases cc : i ∈ vs
                · simp only [if_pos cc]; exact own0.nd i
                · simp only [if_neg cc]; exact own2.nd i
            obtain ⟨O3, r3, hO3⟩ := ownB.rel r2.le
            have in3 : ∀ a ∈ O3, a ∈ O1 ∨ a ∈ O2 := fun a ha => by
              obtain ⟨i, hi⟩ := (hO3 a).mp ha
              by_cases cc : i ∈ vs
              · simp only [if_pos cc] at hi; exact .inl ((hA0 a).mpr ⟨i, hi⟩)
              · simp only [if_neg cc] at hi; exact .inr ((hA2 a).mpr ⟨i, hi⟩)
            have s3 : Step F1 H1 O1 F2 H2 O3 := by
              refine ⟨s2.grow, fun a o q hn => s2.keep a o q fun hm => hn (hOw1 a hm), fun a o q => ?_, fun a ha => ?_, s2.there⟩
              · rcases s2.froz a o q with y | y | y
                · exact .inl y
                · exact .inr (.inl y)
                · exact .inr (.inr (hOw1 a y))
              · rcases in3 a ha with y | y
                · exact .inl y
                · rcases s2.ownd a y with u | u
                  · exact .inl (hOw1 a u)
                  · exact .inr u
            refine w1 F2 H2 O3 (s1.trans s3) r3 (.ref Dn) [Dn] ⟨Dn, accV, rfl, rfl, hD2, fD2, ra⟩ ⟨by simp, fun a ha => ?_⟩
            cases List.mem_singleton.mp ha
            refine ⟨fun hm => ?_, s1.back hD⟩
            rcases in3 Dn hm with y | y
            · obtain ⟨xs, q⟩ := r1.ofO Dn y
              rw [hD] at q; cases q
            · exact nD y
          | some d =>
            dsimp only at heq
            obtain ⟨go, yl⟩ := at_
            refine .inr ⟨go, fun H' => ∃ F' O2 env' acc accV, Step F1 H1 Ow F' H' O2 ∧ z.Rel F' H' env' (L2.wipe σ vs) O2 ∧ Dn ∉ O2 ∧ F' Dn = none ∧ H' Dn = some (.lst accV) ∧ Reps F' acc accV ∧ (∀ i ∈ vs, slot i env' = none) ∧ compF t vs wk (denC r c) (denG r e false) n (k + 1) acc env' = fin, fun H' q => ⟨n, Nat.lt_succ_self n, q⟩, fun x H3 hy => ?_⟩
            obtain ⟨F3, lF, lH, lFH, kk, rp⟩ := yl x H3 hy
            obtain ⟨s3, r3⟩ := Cz.Rel.ext r2 lF lH lFH kk
            cases hp : t.put (some (.val d)) env2 with
            | none => rw [hp] at heq; subst heq; exact w1.elim
            | some env3 =>
              rw [hp] at heq
              dsimp only at heq
              refine gT_use (tput_in r3 hp (v := x) (tA := []) ⟨rfl, rp⟩ List.nodup_nil (fun _ h => (nomatch h)) rfl fun σ4 O4 r4 l4 st4 hk => ?_)
              have we : L2.wipe σ4 vs = L2.wipe σ vs := by
                have e1 : L2.wipe σ4 vs = L2.wipe (L2.wipe σ vs) vs := wipe_eq hk.1 fun i hi => hk.2 i fun hm => hi (hts i hm)
                have e2 : L2.wipe (L2.wipe σ vs) vs = L2.wipe σ vs := wipe_eq (wipe_length _ _) fun i hi => by rw [wipe_at, if_neg hi]
                rw [e1, e2]
              have s4 : Step F2 H2 O2 F3 H3 O4 := s3.less fun a ha => (l4 a ha).resolve_right (fun h => nomatch h)
              have nD4 : Dn ∉ O4 := fun hm => nD ((l4 Dn hm).resolve_right (fun h => nomatch h))
              have hD3 : H3 Dn = some (.lst accV) := lH _ _ hD2
              have fD3 : F3 Dn = none := by
                cases q : F3 Dn with
                | none => rfl
                | some o =>
                  rcases kk Dn o q with y | y
                  · rw [fD2] at y; cases y
                  · rw [hD2] at y; cases y
              -- what of the new list holds behind a step that is not its own
              have stayD : ∀ {Fa Ha Fb Hb : Hp} {Oa Ob : List Addr} {av : List V}, Step Fa Ha Oa Fb Hb Ob → Dn ∉ Oa → Fa Dn = none → Ha Dn = some (.lst av) → Dn ∉ Ob ∧ Fb Dn = none ∧ Hb Dn = some (.lst av) := fun {Fa Ha Fb Hb Oa Ob av} s n f h => by
                refine ⟨fun hm => ?_, ?_, s.keep _ _ h n⟩
                · rcases s.ownd _ hm with y | y
                  · exact n y
                  · rw [h] at y; cases y
                · cases q : Fb Dn with
                  | none => rfl
                  | some o =>
                    rcases s.froz _ _ q with y | y | y
                    · rw [f] at y; cases y
                    · rw [h] at y; cases y
                    · exact absurd y n
              -- the turn's end
              have again : ∀ {F6 H6 : Hp} {O6 : List Addr} {env6 : Env} {acc6 : List D} {av : List V}, Step F3 H3 O4 F6 H6 O6 → z.Rel F6 H6 env6 σ4 O6 → Dn ∉ O6 → F6 Dn = none → H6 Dn = some (.lst av) → Reps F6 acc6 av → compF t vs wk (denC r c) (denG r e false) n (k + 1) acc6 (Rx.wipe env6 vs) = fin →
                  ∃ F' O2 env' acc accV, Step F1 H1 Ow F' H6 O2 ∧ z.Rel F' H6 env' (L2.wipe σ vs) O2 ∧ Dn ∉ O2 ∧ F' Dn = none ∧ H6 Dn = some (.lst accV) ∧ Reps F' acc accV ∧ (∀ i ∈ vs, slot i env' = none) ∧ compF t vs wk (denC r c) (denG r e false) n (k + 1) acc env' = fin := fun {F6 H6 O6 env6 acc6 av} s6 r6 n6 f6 h6 ra6 heq6 => by
                obtain ⟨O7, r7, l7⟩ := wipe_rel (vs := vs) r6
                rw [we] at r7
                exact ⟨F6, O7, Rx.wipe env6 vs, acc6, av, (s2.trans (s4.trans s6)).less l7, r7, fun hm => n6 (l7 _ hm), f6, h6, ra6, fun i hi => by rw [slot_wipe, if_pos hi], heq6⟩
              refine ⟨we, trC_in r4 ?_⟩
              cases e1 : denC r c env3 with
              | stuck => rw [e1] at heq; subst heq; exact w1.elim
              | exc cc dd e4 => rw [e1] at heq; subst heq; exact w1.elim
              | ok p =>
                obtain ⟨q, env4⟩ := p
                rw [e1] at heq
                intro F4 H4 O5 s5 r5 b hb
                subst hb
                obtain ⟨nD5, fD5, hD5⟩ := stayD s5 nD4 fD3 hD3
                cases b with
                | false =>
                  dsimp only at heq
                  exact iteF (again s5 r5 nD5 fD5 hD5 ((ra.mono lF).mono s5.grow) heq)
                | true =>
                  dsimp only at heq
                  refine iteT ⟨F4, O5, env4, r5, ?_⟩
                  show wX z Wf (denG r e false env4) F4 H4 O5 σ4 _
                  cases e2 : denG r e false env4 with
                  | stuck => rw [e2] at heq; subst heq; exact w1.elim
                  | exc cc dd e4 => rw [e2] at heq; subst heq; exact w1.elim
                  | ok p =>
                    obtain ⟨q2, env5⟩ := p
                    rw [e2] at heq
                    dsimp only at heq
                    intro F6 H6 O6 s6 r6 y t6 hq6 ft6
                    cases hk6 : q2.keep with
                    | none => rw [hk6] at heq; subst heq; exact w1.elim
                    | some dy =>
                      rw [hk6] at heq
                      dsimp only at heq
                      by_cases hlen : acc.length < maxLen
                      · rw [if_pos hlen] at heq
                        obtain ⟨F7, rp7, l7, l8, r7, kk7⟩ := kept r6 hq6 ft6 hk6
                        have s7 := kept_step s6 l7 kk7
                        obtain ⟨nD7, fD7, hD7⟩ := stayD s7 nD5 fD5 hD5
                        refine ⟨accV, hD7, by rw [(ra.len), ← maxLen_eq]; exact hlen, ?_⟩
                        have r8 := r7.out hD7 nD7 fD7 (accV ++ [y])
                        have ra7 : Reps F7 acc accV := ((ra.mono lF).mono s5.grow).mono s7.grow
                        have sd : Step F1 H1 Ow F7 (upd H6 Dn (.lst (accV ++ [y]))) O6 := by
                          have sa := s2.trans (s4.trans (s5.trans s7))
                          refine ⟨sa.grow, fun a o q hn => ?_, sa.froz, sa.ownd, fun a o q => ?_⟩
                          · rw [upd_ne (ne_of_none q hD)]; exact sa.keep a o q hn
                          · rw [upd_ne (ne_of_none q hD)]; exact sa.there a o q
                        obtain ⟨O9, r9, l9⟩ := wipe_rel (vs := vs) r8
                        rw [we] at r9
                        exact ⟨F7, O9, Rx.wipe env5 vs, acc ++ [dy], accV ++ [y], sd.less l9, r9, fun hm => nD7 (l9 _ hm), fD7, upd_same, Reps.append ra7 (Reps.cons rp7 Reps.nil), fun i hi => by rw [slot_wipe, if_pos hi], heq⟩
                      · rw [if_neg hlen] at heq; subst heq; exact w1.elim
  · rw [if_neg hcl] at w1; exact w1.elim

theorem slots_ok {t : T} {vs : List Nat} (h : (t.slots.all fun i => vs.contains i) = true) : ∀ i ∈ t.slots, i ∈ vs := fun i hi => by
  have := List.all_eq_true.mp h i hi
  simpa using this
theorem jc_yes {X : Cx} : PTs X [] (trC z r .yes) := pts_nil
theorem jc_one {X : Cx} {c : Expr} {mc : E} (h : PT X c (trT z Wf r mc)) : PTs X [c] (trC z r (.one mc)) := pts_one h
theorem je_comp {elt tg iter : Expr} {ifs : List Expr} {scope : Scope} {own : List (Str × Nat)} {pos : Pos} {t : T} {vs : List Nat} {it : I} {c : C} {me : E} (hc : X.calm = true) (hN : X.N.Nodup) (hi : PI X tg iter (trI z W r it)) (ok : BlkOk X.N X.env.scope scope own)
    (hg : ∀ (s : Shared) (H : Hp) (Ca : Addr) (cl : List (Str × Addr)) (fp : List Addr), PG (X.blk s H scope (compEnvC scope cl Ca X.env) fp) tg (gT X.K t)) (ht : ∀ (s : Shared) (H : Hp) (Ca : Addr) (cl : List (Str × Addr)) (fp : List Addr), PTs (X.blk s H scope (compEnvC scope cl Ca X.env) fp) ifs (trC z r c))
    (he : ∀ (s : Shared) (H : Hp) (Ca : Addr) (cl : List (Str × Addr)) (fp : List Addr), PE (X.blk s H scope (compEnvC scope cl Ca X.env) fp) elt (trE z Wf r me)) (hv : own.map (·.2) = vs := by rfl) (hts : (t.slots.all fun i => vs.contains i) = true := by rfl) (hs : ∀ x, foldedSetIterable iter X.env x = pure x := by intro _; rfl) :
    PE X (.ListComp elt [⟨tg, iter, ifs, 0⟩] scope pos) (trE z W r (.comp t vs it c me)) := PE.imp (pe_lc hc hN hi ok hg ht he hs) fun σ H K h => by
  rw [hv]
  exact comp_in (slots_ok hts) h
/-- name = [..] on one line, the name a local -/
theorem js_setLc {i : Nat} {y : Str} {py : Pos} {elt tg iter : Expr} {ifs : List Expr} {scope : Scope} {own : List (Str × Nat)} {pos spos : Pos} {t : T} {vs : List Nat} {it : I} {c : C} {me : E} (hc : X.calm = true) (hN : X.N.Nodup) (hy : X.N[i]? = some y) (hyl : X.env.scope.names.lookup y = some .local)
    (hsw : swapsWith (.ListComp elt [⟨tg, iter, ifs, 0⟩] scope pos) (some (.Name y py)) spos.line X.env = pure true) (hi : PI X tg iter (trI z W r it)) (ok : BlkOk X.N X.env.scope scope own)
    (hg : ∀ (s : Shared) (H : Hp) (Ca : Addr) (cl : List (Str × Addr)) (fp : List Addr), PG (X.blk s H scope (compEnvC scope cl Ca X.env) fp) tg (gT X.K t)) (ht : ∀ (s : Shared) (H : Hp) (Ca : Addr) (cl : List (Str × Addr)) (fp : List Addr), PTs (X.blk s H scope (compEnvC scope cl Ca X.env) fp) ifs (trC z r c))
    (he : ∀ (s : Shared) (H : Hp) (Ca : Addr) (cl : List (Str × Addr)) (fp : List Addr), PE (X.blk s H scope (compEnvC scope cl Ca X.env) fp) elt (trE z Wf r me)) (hv : own.map (·.2) = vs := by rfl) (hts : (t.slots.all fun i => vs.contains i) = true := by rfl) (hs : ∀ x, foldedSetIterable iter X.env x = pure x := by intro _; rfl) :
    PS X (.Assign [.Name y py] (.ListComp elt [⟨tg, iter, ifs, 0⟩] scope pos) spos) (trS z W r (.asg (.nm i) (.comp t vs it c me))) := PS.imp (ps_setLc hc hN hy hyl hsw hi ok hg ht he hs) fun Dn σ H h => by
  rw [hv]
  exact comp_in (slots_ok hts) (asg_nm h)
end
end Rx

/-! RxList -/
/-! RxList: lists of one's own, changed: append, insert, extend, pop, xs[i] = v. -/
set_option linter.all false
set_option Elab.async false
set_option maxRecDepth 100000
set_option maxHeartbeats 4000000
namespace Rx
open PySem L2

section
variable {X : Cx} {z : Cz} {W : WX} {r : Fs}
theorem isOwn_some {i : Nat} {env : Env} (h : isOwn i env = true) : ∃ io xs, slot i env = some (.own io xs) := by
  unfold isOwn at h
  split at h
  · exact ⟨_, _, ‹_›⟩
  · cases h
/-- the list that a slot owns -/
theorem own_at {F H : Hp} {env : Env} {σ : St} {O : List Addr} (rel : z.Rel F H env σ O) {i : Nat} {io : Bool} {xs : List D} (h : slot i env = some (.own io xs)) : ∃ a vs, σ[i]? = some (some (.ref a)) ∧ H a = some (.lst vs) ∧ F a = none ∧ a ∈ O ∧ Reps F xs vs := by
  obtain ⟨v, as, k1, k2, k3⟩ := slot_val rel h
  obtain ⟨a, vs, e1, e2, h1, h2, rs⟩ := k2
  subst e1 e2
  exact ⟨a, vs, k1, h1, h2, k3 a List.mem_cons_self, rs⟩
/-- it is changed -/
theorem own_upd {F H : Hp} {env : Env} {σ : St} {O : List Addr} {i : Nat} {io : Bool} {xs ys : List D} {a : Addr} {ws : List V} (rel : z.Rel F H env σ O) (h : slot i env = some (.own io xs)) (hs : σ[i]? = some (some (.ref a))) (rs : Reps F ys ws) :
    Step F H O F (upd H a (.lst ws)) O ∧ z.Rel F (upd H a (.lst ws)) (env.set i (some (.own io ys))) σ O ∧ LM env (env.set i (some (.own io ys))) := by
  obtain ⟨o, O1, as, O2, k1, k2, k3, k4⟩ := RSs.focus rel.ss (slot_some h)
  obtain ⟨v, e1, b, vs, e2, e3, h1, h2, h3⟩ := k3
  subst e1 e2 e3
  rw [hs] at k1
  have eab : a = b := by cases k1; rfl
  subst eab
  have nd := rel.nd
  rw [k2] at nd
  have na : a ∉ O1 ++ O2 := by
    simp only [List.nodup_append, List.singleton_append, List.nodup_cons] at nd
    intro hm
    rcases List.mem_append.mp hm with q | q
    · exact nd.2.2 a q a List.mem_cons_self rfl
    · exact nd.2.1.1 q
  have aO : a ∈ O := by rw [k2]; simp
  have st : Step F H O F (upd H a (.lst ws)) O := ⟨Le.refl F, fun b u q n => by rw [upd_ne (fun e => n (by rw [e]; exact aO))]; exact q, fun b u q => .inl q, fun b hb => .inl hb, fun b u q => by
    by_cases e : b = a
    · subst e; exact ⟨_, upd_same⟩
    · exact ⟨u, by rw [upd_ne e]; exact q⟩⟩
  refine ⟨st, ⟨fun b u q => ?_, ?_, by rw [k2]; exact nd⟩, LM.set fun x e hx => lent_of h (by cases e; cases io <;> simp_all [notLent])⟩
  · rw [upd_ne (fun e => by subst e; rw [h2] at q; cases q)]; exact rel.le _ _ q
  · have q := k4 F (upd H a (.lst ws)) (some (.own io ys)) (some (.ref a)) [a] (fun m v bs q hb => ?_) ⟨.ref a, rfl, a, ws, rfl, rfl, upd_same, h2, rs⟩
    · have es : σ.set i (some (.ref a)) = σ := by
        obtain ⟨hi, e⟩ := List.getElem?_eq_some_iff.mp hs
        rw [← e]; exact List.set_getElem_self hi
      rw [es] at q
      rw [k2]
      exact q
    · refine RM.stay (O := [a]) (O' := [a]) ⟨Le.refl F, fun b u q n => by rw [upd_ne (fun e => n (by rw [e]; exact List.mem_cons_self))]; exact q, fun b u q => .inl q, fun b hb => .inl hb, fun b u q => ?_⟩ (fun b hb => by cases List.mem_singleton.mp hb; exact ⟨vs, h1⟩) q (fun b hbm e => ?_)
      · by_cases e : b = a
        · subst e; exact ⟨_, upd_same⟩
        · exact ⟨u, by rw [upd_ne e]; exact q⟩
      · cases List.mem_singleton.mp e
        exact na (hb a hbm)

variable {x : Str} {i : Nat} {e ek : Expr} {me mk : E} {px apos cpos pos : Pos}
theorem js_app (hN : X.N[i]? = some x := by rfl) (hv : Vis X.env.scope x := by first | exact Or.inl rfl | exact Or.inr (Or.inl rfl) | exact Or.inr (Or.inr rfl)) (hd : (x == ("__debug__" : Str)) = false := by decide) (hcd : (x == ("__classdict__" : Str)) = false := by decide) (he : PE X e (trE z W r me))
    (hs : swapsWith (.Call (.Attribute (.Name x px) "append" apos) [e] [] cpos) none pos.line X.env = pure false := by rfl)
    (hbase : attributeBase (.Name x px) "append" X.env (eval (.Name x px) X.env) = eval (.Name x px) X.env := by rfl)
    (hfew : ((backTo cpos (starEach [e] X.env)).all (fun x => !x.1) && (backToKw cpos (keywordEach [] X.env)).all (fun x => x.1.isSome) && decide (([e] : List Expr).length + ([] : List Keyword).length + (if ([] : List Keyword).isEmpty then 0 else 1) < 30)) = true := by rfl)
    (hline : (apos.endLine == cpos.line) = true := by rfl) (hs2 : starEach [e] X.env = (false, eval e X.env) :: starEach [] X.env := by rfl) (hplain : (backTo cpos (starEach [] X.env)).any (·.1) = false := by rfl) :
    PS X (.Expr (.Call (.Attribute (.Name x px) "append" apos) [e] [] cpos) pos) (trS z W r (.app i me)) :=
  PS.imp (ps_expr (pe_bm PySem.F.plainAttrs_list PySem.F.slot_list_append PySem.F.type_list_append mt_append (pe_var hN hv hd hcd) (pa_cons he pa_nil hs2) hbase hfew hline hs2 hplain) hs) fun Dn σ H ⟨F, O, env, rel, w⟩ => by
  rw [denS] at w
  by_cases ho : isOwn i env = true
  · rw [if_pos ho] at w
    obtain ⟨io, xs, hs⟩ := isOwn_some ho
    obtain ⟨a, vs, k1, h1, _, _, rs⟩ := own_at rel hs
    refine ⟨.ref a, k1, .inl ⟨rfl, vs, SqL.of h1⟩, F, O, env, rel, wO.o w (denE_lm r me env) fun q env1 F1 H1 O1 _ s1 r1 st1 w1 => ?_⟩
    intro y t hq ft
    dsimp only at w1
    split at w1
    · rename_i d io1 xs1 hk hs1
      by_cases hl : xs1.length < maxLen
      · rw [if_pos hl] at w1
        obtain ⟨F2, rp, l1, l2, r2, kk⟩ := kept r1 hq ft hk
        have s2 := kept_step s1 l1 kk
        obtain ⟨b, ws, k2, h2, _, _, rs2⟩ := own_at r2 hs1
        rw [k1] at k2
        cases k2
        obtain ⟨s3, r3, lm⟩ := own_upd (ys := xs1 ++ [d]) r2 hs1 k1 (Reps.append rs2 (Reps.cons rp Reps.nil))
        exact ⟨a, ws, y, rfl, rfl, h2, by rw [rs2.len, ← maxLen_eq]; exact hl, w1 σ F2 _ O1 (s2.trans s3) r3 (st1.trans (LM.stay lm σ))⟩
      · rw [if_neg hl] at w1; exact w1.elim
    · exact w1.elim
  · rw [if_neg ho] at w; exact w.elim
theorem js_ins (hN : X.N[i]? = some x := by rfl) (hv : Vis X.env.scope x := by first | exact Or.inl rfl | exact Or.inr (Or.inl rfl) | exact Or.inr (Or.inr rfl)) (hd : (x == ("__debug__" : Str)) = false := by decide) (hcd : (x == ("__classdict__" : Str)) = false := by decide) (hk : PE X ek (trE z W r mk)) (he : PE X e (trE z W r me))
    (hs : swapsWith (.Call (.Attribute (.Name x px) "insert" apos) [ek, e] [] cpos) none pos.line X.env = pure false := by rfl)
    (hbase : attributeBase (.Name x px) "insert" X.env (eval (.Name x px) X.env) = eval (.Name x px) X.env := by rfl)
    (hfew : ((backTo cpos (starEach [ek, e] X.env)).all (fun x => !x.1) && (backToKw cpos (keywordEach [] X.env)).all (fun x => x.1.isSome) && decide (([ek, e] : List Expr).length + ([] : List Keyword).length + (if ([] : List Keyword).isEmpty then 0 else 1) < 30)) = true := by rfl)
    (hline : (apos.endLine == cpos.line) = true := by rfl) (hs2 : starEach [ek, e] X.env = (false, eval ek X.env) :: starEach [e] X.env := by rfl) (hplain : (backTo cpos (starEach [e] X.env)).any (·.1) = false := by rfl) (hs3 : starEach [e] X.env = (false, eval e X.env) :: starEach [] X.env := by rfl) :
    PS X (.Expr (.Call (.Attribute (.Name x px) "insert" apos) [ek, e] [] cpos) pos) (trS z W r (.ins i mk me)) :=
  PS.imp (ps_expr (pe_bm PySem.F.plainAttrs_list PySem.F.slot_list_insert PySem.F.type_list_insert mt_insert (pe_var hN hv hd hcd) (pa_cons hk (pa_cons he pa_nil hs3) hs2) hbase hfew hline hs2 hplain) hs) fun Dn σ H ⟨F, O, env, rel, w⟩ => by
  rw [denS] at w
  by_cases ho : isOwn i env = true
  · rw [if_pos ho] at w
    obtain ⟨io, xs, hs⟩ := isOwn_some ho
    obtain ⟨a, vs, k1, h1, _, _, rs⟩ := own_at rel hs
    refine ⟨.ref a, k1, .inl ⟨rfl, vs, SqL.of h1⟩, F, O, env, rel, wO.o w (denE_lm r mk env) fun q0 env0 F0 H0 O0 _ s0 r0 st0 w0 => ?_⟩
    intro v0 t0 hq0 ft0
    have n0 : ∀ a ∈ t0, a ∉ O0 := fun a ha => (ft0.2 a ha).1
    dsimp only at w0
    refine ⟨F0, O0, env0, r0, wO.o (wO.shift s0 st0 w0) (denE_lm r me env0) fun q env1 F1 H1 O1 _ s1 r1 st1 w1 => ?_⟩
    intro y t hq ft
    dsimp only at w1
    split at w1
    · rename_i n d io1 xs1 hn hk hs1
      have e0 := (hq0.stay s1 r0.ofO n0).get_int r1 hn
      by_cases hl : xs1.length < maxLen ∧ 0 ≤ n ∧ n ≤ xs1.length
      · rw [if_pos hl] at w1
        obtain ⟨F2, rp, l1, l2, r2, kk⟩ := kept r1 hq ft hk
        have s2 := kept_step s1 l1 kk
        obtain ⟨b, ws, k2, h2, _, _, rs2⟩ := own_at r2 hs1
        rw [k1] at k2
        cases k2
        obtain ⟨s3, r3, lm⟩ := own_upd (ys := xs1.take n.toNat ++ [d] ++ xs1.drop n.toNat) r2 hs1 k1 (Reps.append (Reps.append (rs2.take _) (Reps.cons rp Reps.nil)) (rs2.drop _))
        refine ⟨a, ws, n, y, rfl, by rw [e0], h2, by rw [rs2.len, ← maxLen_eq]; exact hl.1, hl.2.1, ?_, w1 σ F2 _ O1 (s2.trans s3) r3 (st1.trans (LM.stay lm σ))⟩
        have := hl.1
        have := hl.2.2
        unfold maxLen at *
        omega
      · rw [if_neg hl] at w1; exact w1.elim
    · exact w1.elim
  · rw [if_neg ho] at w; exact w.elim
theorem js_ext (hN : X.N[i]? = some x := by rfl) (hv : Vis X.env.scope x := by first | exact Or.inl rfl | exact Or.inr (Or.inl rfl) | exact Or.inr (Or.inr rfl)) (hd : (x == ("__debug__" : Str)) = false := by decide) (hcd : (x == ("__classdict__" : Str)) = false := by decide) (he : PE X e (trE z W r me))
    (hs : swapsWith (.Call (.Attribute (.Name x px) "extend" apos) [e] [] cpos) none pos.line X.env = pure false := by rfl)
    (hbase : attributeBase (.Name x px) "extend" X.env (eval (.Name x px) X.env) = eval (.Name x px) X.env := by rfl)
    (hfew : ((backTo cpos (starEach [e] X.env)).all (fun x => !x.1) && (backToKw cpos (keywordEach [] X.env)).all (fun x => x.1.isSome) && decide (([e] : List Expr).length + ([] : List Keyword).length + (if ([] : List Keyword).isEmpty then 0 else 1) < 30)) = true := by rfl)
    (hline : (apos.endLine == cpos.line) = true := by rfl) (hs2 : starEach [e] X.env = (false, eval e X.env) :: starEach [] X.env := by rfl) (hplain : (backTo cpos (starEach [] X.env)).any (·.1) = false := by rfl) :
    PS X (.Expr (.Call (.Attribute (.Name x px) "extend" apos) [e] [] cpos) pos) (trS z W r (.ext i me)) :=
  PS.imp (ps_expr (pe_bm PySem.F.plainAttrs_list PySem.F.slot_list_extend PySem.F.type_list_extend mt_extend (pe_var hN hv hd hcd) (pa_cons he pa_nil hs2) hbase hfew hline hs2 hplain) hs) fun Dn σ H ⟨F, O, env, rel, w⟩ => by
  rw [denS] at w
  by_cases ho : isOwn i env = true
  · rw [if_pos ho] at w
    obtain ⟨io, xs, hs⟩ := isOwn_some ho
    obtain ⟨a, vs, k1, h1, _, _, rs⟩ := own_at rel hs
    refine ⟨.ref a, k1, .inl ⟨rfl, vs, SqL.of h1⟩, F, O, env, rel, wO.o w (denE_lm r me env) fun q env1 F1 H1 O1 _ s1 r1 st1 w1 => ?_⟩
    intro y t hq ft
    dsimp only at w1
    split at w1
    · rename_i ds io1 xs1 hk hs1
      by_cases hl : xs1.length + ds.length ≤ maxLen
      · rw [if_pos hl] at w1
        obtain ⟨F2, rp, l1, l2, r2, kk⟩ := kept r1 hq ft hk
        have s2 := kept_step s1 l1 kk
        obtain ⟨b, ws, k2, h2, _, _, rs2⟩ := own_at r2 hs1
        rw [k1] at k2
        cases k2
        simp only [Rep] at rp
        obtain ⟨c, us, ec, hc, rc⟩ := rp
        obtain ⟨s3, r3, lm⟩ := own_upd (ys := xs1 ++ ds) r2 hs1 k1 (Reps.append rs2 rc)
        exact ⟨a, c, ws, us, rfl, by rw [ec], h2, l2 _ _ hc, by rw [rs2.len, rc.len, ← maxLen_eq]; exact hl, w1 σ F2 _ O1 (s2.trans s3) r3 (st1.trans (LM.stay lm σ))⟩
      · rw [if_neg hl] at w1; exact w1.elim
    · exact w1.elim
  · rw [if_neg ho] at w; exact w.elim

theorem je_pop (hN : X.N[i]? = some x := by rfl) (hv : Vis X.env.scope x := by first | exact Or.inl rfl | exact Or.inr (Or.inl rfl) | exact Or.inr (Or.inr rfl)) (hd : (x == ("__debug__" : Str)) = false := by decide) (hcd : (x == ("__classdict__" : Str)) = false := by decide)
    (hbase : attributeBase (.Name x px) "pop" X.env (eval (.Name x px) X.env) = eval (.Name x px) X.env := by rfl) (hline : (apos.endLine == cpos.line) = true := by rfl) :
    PE X (.Call (.Attribute (.Name x px) "pop" apos) [] [] cpos) (trE z W r (.pop i)) :=
  PE.imp (pe_bm0 PySem.F.plainAttrs_list PySem.F.slot_list_pop PySem.F.type_list_pop mt_pop (pe_var hN hv hd hcd) hbase hline) fun σ H K ⟨F, O, env, rel, w⟩ => by
  rw [denE_pop] at w
  split at w
  · rename_i io xs hs
    split at w
    · rename_i d hl
      obtain ⟨a, vs, k1, h1, _, _, rs⟩ := own_at rel hs
      have hl' : xs[xs.length - 1]? = some d := by rw [← hl, List.getLast?_eq_getElem?]
      obtain ⟨v, e1, rp⟩ := rs.get hl'
      rw [← rs.len] at e1
      obtain ⟨s3, r3, lm⟩ := own_upd (ys := xs.dropLast) rel hs k1 rs.dropLast
      exact ⟨.ref a, k1, .inl ⟨rfl, vs, SqL.of h1⟩, a, vs, v, rfl, rfl, h1, e1, w F _ O s3 r3 v [] ⟨rfl, rp⟩ (Fresh.nil _ _)⟩
    · exact w.elim
  · exact w.elim
theorem js_pop {e : Expr} (h : PS X (.Expr e pos) (trS z W r (.expr (.pop i)))) : PS X (.Expr e pos) (trS z W r (.pop i)) := h
theorem je_popAt (hN : X.N[i]? = some x := by rfl) (hv : Vis X.env.scope x := by first | exact Or.inl rfl | exact Or.inr (Or.inl rfl) | exact Or.inr (Or.inr rfl)) (hd : (x == ("__debug__" : Str)) = false := by decide) (hcd : (x == ("__classdict__" : Str)) = false := by decide) (he : PE X e (trE z W r me))
    (hbase : attributeBase (.Name x px) "pop" X.env (eval (.Name x px) X.env) = eval (.Name x px) X.env := by rfl)
    (hfew : ((backTo cpos (starEach [e] X.env)).all (fun x => !x.1) && (backToKw cpos (keywordEach [] X.env)).all (fun x => x.1.isSome) && decide (([e] : List Expr).length + ([] : List Keyword).length + (if ([] : List Keyword).isEmpty then 0 else 1) < 30)) = true := by rfl)
    (hline : (apos.endLine == cpos.line) = true := by rfl) (hs2 : starEach [e] X.env = (false, eval e X.env) :: starEach [] X.env := by rfl) (hplain : (backTo cpos (starEach [] X.env)).any (·.1) = false := by rfl) :
    PE X (.Call (.Attribute (.Name x px) "pop" apos) [e] [] cpos) (trE z W r (.popAt i me)) :=
  PE.imp (pe_bm PySem.F.plainAttrs_list PySem.F.slot_list_pop PySem.F.type_list_pop mt_popAt (pe_var hN hv hd hcd) (pa_cons he pa_nil hs2) hbase hfew hline hs2 hplain) fun σ H K ⟨F, O, env, rel, w⟩ => by
  rw [denE_popAt] at w
  by_cases ho : isOwn i env = true
  · rw [if_pos ho] at w
    obtain ⟨io, xs, hs⟩ := isOwn_some ho
    obtain ⟨a, vs, k1, h1, _, _, rs⟩ := own_at rel hs
    refine ⟨.ref a, k1, .inl ⟨rfl, vs, SqL.of h1⟩, F, O, env, rel, wX.bind0 w fun q env1 F1 H1 O1 _ s1 r1 w1 => ?_⟩
    intro y t hq ft
    dsimp only at w1
    split at w1
    · rename_i k io1 xs1 hn hs1
      have e0 := hq.get_int r1 hn
      split at w1
      · rename_i j hj
        split at w1
        · rename_i d hd'
          by_cases hb : -(2 ^ 60) ≤ k ∧ k < 2 ^ 60
          · rw [if_pos hb] at w1
            obtain ⟨b, ws, k2, h2, _, _, rs2⟩ := own_at r1 hs1
            rw [k1] at k2
            cases k2
            obtain ⟨v, e1, rp⟩ := rs2.get hd'
            obtain ⟨s3, r3, lm⟩ := own_upd (ys := xs1.eraseIdx j) r1 hs1 k1 (rs2.erase j)
            have hj' : ixN xs1.length k = some j := hj
            obtain ⟨g1, _⟩ := ixN_seq hj'
            refine ⟨a, ws, k, j, v, rfl, by rw [e0], h2, by omega, by omega, by rw [rs2.len]; exact g1, e1, w1 F1 _ O1 (s1.trans s3) r3 v [] ⟨rfl, rp⟩ (Fresh.nil _ _)⟩
          · rw [if_neg hb] at w1; exact w1.elim
        · exact w1.elim
      · exact w1.elim
    · exact w1.elim
  · rw [if_neg ho] at w; exact w.elim
theorem js_setix {spos : Pos} (hN : X.N[i]? = some x := by rfl) (hv : Vis X.env.scope x := by first | exact Or.inl rfl | exact Or.inr (Or.inl rfl) | exact Or.inr (Or.inr rfl)) (hd : (x == ("__debug__" : Str)) = false := by decide) (hcd : (x == ("__classdict__" : Str)) = false := by decide) (hk : PE X ek (trE z W r mk)) (he : PE X e (trE z W r me))
    (ha : ∀ v, assign (.Subscript (.Name x px) ek spos) X.env v = (do
      let ov ← holding [v] (eval (.Name x px) X.env)
      let iv ← holding [v, ov] (eval ek X.env)
      standAt spos
      holding [v, ov, iv] (setItem ov iv v)
      release [v, ov, iv] []) := by intro _; rfl)
    (hs : swapsWithSole [.Subscript (.Name x px) ek spos] e pos.line X.env = pure false := by rfl) (hw : swappedStores [.Subscript (.Name x px) ek spos] e X.env = pure none := by rfl)
    (h1 : (assignEach [.Subscript (.Name x px) ek spos] X.env).map (·.2) = [assign (.Subscript (.Name x px) ek spos) X.env] := by rfl) :
    PS X (.Assign [.Subscript (.Name x px) ek spos] e pos) (trS z W r (.setix i mk me)) :=
  PS.imp (ps_asg he (pg_sub (pe_var hN hv hd hcd) hk set_list ha) hs hw h1) fun Dn σ H ⟨F, O, env, rel, w⟩ => by
  rw [denS] at w
  refine ⟨F, O, env, rel, wO.o w (denE_lm r me env) fun q env1 F1 H1 O1 _ s1 r1 st1 w1 => ?_⟩
  intro y t hq ft
  dsimp only at w1
  cases k : q.keep with
  | none => rw [k] at w1; exact w1.elim
  | some d =>
    rw [k] at w1
    dsimp only at w1
    by_cases ho : isOwn i env1 = true
    · rw [if_pos ho] at w1
      obtain ⟨io, xs, hs⟩ := isOwn_some ho
      obtain ⟨a, vs, k1, h1, _, _, rs⟩ := own_at r1 hs
      obtain ⟨F2, rp, l1, l2, r2, kk⟩ := kept r1 hq ft k
      have s2 := kept_step s1 l1 kk
      refine ⟨.ref a, k1, F2, O1, env1, r2, wO.o (wO.shift s2 st1 w1) (denE_lm r mk env1) fun q2 env2 F3 H3 O3 _ s3 r3 st3 w3 => ?_⟩
      intro v2 t2 hq2 ft2
      dsimp only at w3
      split at w3
      · rename_i n io1 xs1 hn hs1
        have e0 := hq2.get_int r3 hn
        split at w3
        · rename_i j hj
          obtain ⟨b, ws, k2, h2, _, _, rs2⟩ := own_at r3 hs1
          rw [k1] at k2
          cases k2
          obtain ⟨s4, r4, lm⟩ := own_upd (ys := xs1.set j d) r3 hs1 k1 (Reps.set (rp.mono s3.grow) j rs2)
          have hj' : ixN xs1.length n = some j := hj
          exact ⟨a, ws, n, j, rfl, e0, h2, by rw [rs2.len]; exact hj', w3 σ F3 _ O3 (s3.trans s4) r4 (st3.trans (LM.stay lm σ))⟩
        · exact w3.elim
      · exact w3.elim
    · rw [if_neg ho] at w1; exact w1.elim
end
end Rx

/-! RxExc -/
/-! RxExc: errors with the attribute at: made and raised; try with clauses that may have names; e.at. -/
set_option linter.all false
set_option Elab.async false
set_option maxRecDepth 100000
set_option maxHeartbeats 4000000
namespace Rx
namespace At
open PySem PySem.W PySem.Calls PyProof.Rows PySem.HandSPX
/-- (self, at) -/
def pars (p1 p2 : Pos) : Arguments where
  posonlyargs := []
  args := [⟨"self", none, p1⟩, ⟨"at", none, p2⟩]
  vararg := none
  kwonlyargs := []
  kw_defaults := []
  kwarg := none
  defaults := []
/-- self.at = at -/
def row (q1 q2 q3 q4 : Pos) : List Stmt := [.Assign [.Attribute (.Name "self" q1) "at" q2] (.Name "at" q3) q4]
def sco : Scope where
  kind := .function
  names := [(PySem.Str.ofString "self", .local), (atK, .local)]
  isGenerator := false
  isCoroutine := false
  more := []
/-- the class nm at C with its own __init__ at f -/
structure Txt (K : Frag) (mg : Str → Option Value) (nm qi : Str) (C f : Addr) : Prop where
  there : mg nm = some (.ref C)
  cls : ∃ n q N bs bm sn sub ab col dd k0 k1 k2 k3 k5, K.lookup C = some (excClassObj n q C N bs bm true sn sub ab col dd k0 k1 k2 k3 k5 "ValueError.__new__") ∧ refsVE bm = true
  set_ : findIn K (.ref C) "__setattr__" = some (some (.builtin "object.__setattr__"))
  get_ : findIn K (.ref C) "__getattribute__" = some (some (.builtin "BaseException.__getattribute__"))
  get2 : findIn K (.ref C) "__getattr__" = some none
  bare : findIn K (.ref C) atK = some none
  init : findIn K (.ref C) "__init__" = some (some (.ref f))
  ty : typeIn K (.ref f) = some (.type "function")
  keep : keepIn K (.ref C) = true
  exc : subIn K (.ref C) (.type "BaseException") = some true
  mty : typeIn K (.ref C) = some (.type "type")
  dict : hasDictIn K C = true
  fn : ∃ oc od doc pm an cdv ct osl p1 p2 q1 q2 q3 q4, K.lookup f = some ⟨oc, od, .func (fnOf "__init__" qi (pars p1 p2) (row q1 q2 q3 q4) sco .none .none doc pm an cdv ct), osl⟩ ∧ codeIn K cdv qi = true
theorem small (v : Value) : [v].length ≤ sizeLine := by
  rw [sizeLine_eq]; exact (by decide : 1 ≤ 16777216)
theorem look {M : Model} {s : Shared} {fn : Str} {sc : Scope} {L b : Addr} {cd v : Value} {m : Str → Option Value} {y : Str} {pos : Pos} {Q E : Value → Shared → Prop} {A : Around} (ns : s.heap.Ns L m) (e : m y = some v) (q : Q v s)
    (k1 : sc.kind = .function := by rfl) (k2 : (envOfC fn sc L b cd).kindOf y = some .local := by rfl) (k3 : (y == ("__debug__" : Str)) = false := by decide) :
    wpAny M A (eval (.Name y pos) (envOfC fn sc L b cd)) Q E s := wpAny_Name (wpAny_loadName_local k1 k2 ns e q) k3
/-- behind __init__: the error x with its own dict dx -/
structure Ini (g g' : Heap) (x C dx tu : Addr) (v : Value) : Prop where
  rest : ∀ b o, b ≠ x → g.get? b = some o → g'.get? b = some o
  here : g'.get? x = some { cls := .ref C, dict := some dx, data := .fields #[.ref tu, .none, .none, .none, .bool false, .none] }
  late : g.objs.size ≤ dx
  apart : dx ≠ x
  holds : g'.Ns1 dx (fun y => if y = "at" then some v else none)
/-- an error made -/
structure New (g g' : Heap) (e C d : Addr) (v : Value) : Prop where
  rest : ∀ b o, g.get? b = some o → g'.get? b = some o
  late : g.objs.size ≤ e
  here : ∃ oe vs, g'.get? e = some oe ∧ oe.cls = .ref C ∧ oe.dict = some d ∧ oe.data = .fields vs ∧ vs[1]? = some .none
  lateD : g.objs.size ≤ d
  apart : d ≠ e
  holds : g'.Ns1 d (fun y => if y = "at" then some v else none)
section
variable {P : Program} {w : World} {A : Around} {R : Result → Shared → Prop} {s : Shared} {K : Frag} {mg : Str → Option Value} {nm qi : Str} {C f : Addr}
theorem Txt.ini (T : Txt K mg nm qi C f) {x tu : Addr} {v : Value} (kin : K.In s.heap) (lim : s.heap.NoLimit) (ex : s.heap.get? x = some (excO C tu)) (nx : K.lookup x = none) (dp : A.depth < recursionLimit)
    (k : ∀ g' tk dx, Ini s.heap g' x C dx tu v → R (.ok (.ret .none)) { s with heap := g', toks := tk }) : codeAny (model P w) A (.call (.ref f) ⟨[.ref x, v], []⟩) R s := by
  obtain ⟨oc, od, doc, pm, an, cdv, ct, osl, p1, p2, q1, q2, q3, q4, lf, cf⟩ := T.fn
  obtain ⟨n, q, N, bs, bm, sn, sub, ab, col, dd, k0, k1, k2, k3, k5, lC, rbm⟩ := T.cls
  have cl : clsIn K C = some { name := n, bases := bs, mro := .ref C :: bm, ns := N, qualname := q, hasDict := true, slotNames := sn, subclasses := sub, abstract := ab, collection := col, hasDel := false } := by
    unfold clsIn; rw [lC] <;> rfl
  refine Att.call_fn (binds := [("self", .ref x), ("at", v)]) kin lim lf cf dp (BindsTo.of_eq (by first | rfl | with_unfolding_all rfl)) (by first | rfl | decide | with_unfolding_all rfl) (fun s1 ic => ?_) rfl rfl rfl
  obtain ⟨g1, tk1, rfl⟩ := ic.toInCall.same
  have kp : ∀ b o, s.heap.get? b = some o → g1.get? b = some o := ic.toInCall.keep
  have ns := ic.toInCall.ns
  have kin1 : K.In g1 := kin.keeps kp
  have ex1 := kp _ _ ex
  show wpAny _ _ (execs _ _) _ _ _
  refine wpAny_execs_cons (plainObj_wpAny_Assign_Attribute ?_)
  refine look (v := v) ns (by first | rfl | with_unfolding_all rfl | kernel_rfl) ?_
  refine look (v := .ref x) ns (by first | rfl | with_unfolding_all rfl | kernel_rfl) ?_
  refine set_plain kin1 (ox := excO C tu) (od := none) ⟨ex1, rfl, rfl, trivial⟩ T.set_ ?_
  refine exc_osa kin1 ex1 cl (show refsVE (.ref C :: bm) = true from rbm) rfl T.bare fun g3 tk3 dx kp3 lt ne ex3 ns3 => ?_
  show wpAny _ _ (execs _ _) _ _ _
  have lt1 : s.heap.objs.size < g1.objs.size := ns.lt
  exact wpAny_execs_nil (k g3 tk3 dx ⟨fun b o hb e => kp3 b o hb (kp b o e), ex3, Nat.le_of_lt (Nat.lt_of_lt_of_le lt1 lt), ne, ns3⟩)
theorem Txt.new (T : Txt K mg nm qi C f) {v : Value} (kin : K.In s.heap) (lim : s.heap.NoLimit) (dp : A.depth + 1 < recursionLimit) (k : ∀ g' tk e d, New s.heap g' e C d v → R (.ok (.ret (.ref e))) { s with heap := g', toks := tk }) :
    codeAny (model P w) A (.call (.ref C) ⟨[v], []⟩) R s := by
  obtain ⟨n, q, N, bs, bm, sn, sub, ab, col, dd, k0, k1, k2, k3, k5, lC, rbm⟩ := T.cls
  obtain ⟨g, gl, dr, tk, os⟩ := s
  have kp : ∀ b o, g.get? b = some o → ((g.push (kdv_tup [v])).push (excO C g.objs.size)).get? b = some o := fun b o e => Heap.get?_push_of_some _ (Heap.get?_push_of_some _ e)
  have at1 : ((g.push (kdv_tup [v])).push (excO C g.objs.size)).get? (g.objs.size + 1) = some (excO C g.objs.size) := by heap_get
  have no1 : K.lookup (g.objs.size + 1) = none := by
    cases e : K.lookup (g.objs.size + 1) with
    | none => rfl
    | some o => exact absurd (Nat.lt_of_succ_lt (Heap.lt_size (show g.get? (g.objs.size + 1) = some o from kin _ _ e))) (Nat.lt_irrefl _)
  refine call_own F.excBase_ValueError (fun X => refsVE_contains X bm rbm) (kin _ _ lC) (looks_findIn kin T.init) (fun self => bind_fn kin self T.ty) (small v) ?_
  refine T.ini (s := ⟨(g.push (kdv_tup [v])).push (excO C g.objs.size), gl, dr, tk, os⟩) (kin.keeps kp) (lim.keeps kp) at1 no1 (show A.depth + 1 < recursionLimit from dp) fun g' tk' dx i => ?_
  have old : ∀ b o, g.get? b = some o → g'.get? b = some o := fun b o e => i.rest b o (Nat.ne_of_lt (Nat.lt_succ_of_lt (Heap.lt_size e))) (kp b o e)
  have far : g.objs.size + 1 + 1 ≤ dx := by
    first
      | (simpa only [Heap.size_push] using i.late)
      | exact i.late
      | (have y := i.late; rw [Heap.size_push, Heap.size_push] at y; exact y)
  refine ⟨rfl, k g' tk' (g.objs.size + 1) dx ⟨old, Nat.le_succ _, ⟨_, _, i.here, rfl, rfl, rfl, rfl⟩, ?_, i.apart, i.holds⟩⟩
  show g.objs.size ≤ dx
  omega
end
end At

open PySem PySem.Spec PyProof.Rows L2
abbrev atD (v : V) : HO := .xd [(atK, v)]
theorem at_one {v : V} {u : Value} (q : RelV v u) (y : Str) : RelO (List.lookup y [(atK, v)]) (if y = "at" then some u else none) := by
  by_cases h : y = "at"
  · rw [if_pos h, h]
    have e : List.lookup ("at" : Str) [(atK, v)] = some v := by
      show List.lookup atK [(atK, v)] = some v
      simp [List.lookup]
    rw [e]
    exact q
  · rw [if_neg h]
    have b : (y == atK) = false := by
      have h' : y ≠ atK := h
      simpa using h'
    have e : List.lookup y [(atK, v)] = none := by simp [List.lookup, b]
    rw [e]
    trivial
section
variable {X : Cx} {C f : Addr} {nm qi : Str}
/-- nm(e) -/
def tMk (C : Addr) (t : TA) : L2.St → Hp → XK → Prop := fun σ H Q => t σ H fun vs H1 => ∃ v, vs = [v] ∧ ∀ d, H1 d = none → Q (.ref C) (some d) (upd H1 d (atD v))
theorem pmk_at {e : Expr} {t : TA} {p pos : Pos} {k : Nat} (T : At.Txt X.K X.mg nm qi C f) (room : Room k X.A) (ha : PA X [e] t) (hg : Gl X nm) (hdb : (nm == ("__debug__" : Str)) = false := by decide)
    (s1 : starEach (e :: []) X.env = (false, eval e X.env) :: starEach [] X.env := by rfl) (s2 : (backTo pos (starEach [] X.env)).any (·.1) = false := by rfl) : PMk X (.Call (.Name nm p) [e] [] pos) (tMk C t) := by
  intro pins s σ H Q I h
  refine wpAny_Call_Name_kw (ld_glob I hg T.there ?_ hdb)
  refine PySem.W.callWith_K (h₀ := X.base) I.ok.mod.kin T.keep (thn (ha.run pos pins s σ H _ I h) fun us t1 tq => ?_) s1 s2
  obtain ⟨vs, H1, I1, rv, v, ev, q1⟩ := tq
  subst ev
  refine ⟨I1.kIn, ?_⟩
  obtain ⟨u, eu, ru⟩ := rv.one
  subst eu
  show wpAny _ _ (call (.ref C) [u]) _ _ _
  have lim := I1.nolimit
  obtain ⟨g, gl, dr, tk, os⟩ := t1
  refine wpAny_call (T.new I1.kIn lim (by have := room.dp; omega) fun g' tk' a d M => ?_)
  show MkP X pins σ Q (.ref a) ⟨g', gl, dr, tk', os⟩
  obtain ⟨oe, fv, a1, a2, a3, a4, a5⟩ := M.here
  obtain ⟨G, r1, r2⟩ := restrict g' fun b => decide (b ≠ a)
  have other : ∀ b, b ≠ a → G.get? b = g'.get? b := fun b hb => r1 b (decide_eq_true hb)
  have gone : G.get? a = none := r2 a (by simp)
  have old : ∀ b o, g.get? b = some o → G.get? b = some o := fun b o q => (other b (Nat.ne_of_lt (Nat.lt_of_lt_of_le (Heap.lt_size q) M.late))).trans (M.rest b o q)
  have ob : ObjOk X.prog X.w (upd H1 d (atD v)) G d (atD v) := ⟨_, M.holds.at (fun o q => (other d M.apart).trans q), fun y => at_one ru y⟩
  have J : Inv X pins σ (upd H1 d (atD v)) ⟨G, gl, dr, tk', os⟩ := I1.laid (t' := tk') old M.lateD ob
  refine ⟨a, oe, fv, ⟨G, gl, dr, tk', os⟩, _, .ref C, some d, rfl, J, fun b o q => ?_, gone, a1, ⟨a2, a3⟩, a4, a5, ?_, rfl, I1.bare, raises_own T.exc T.mty, q1 d (I1.hok.fresh M.lateD)⟩
  · have nb : b ≠ a := fun e => by
      have q' : G.get? b = some o := q
      rw [e, gone] at q'; cases q'
    exact (other b nb).symm.trans q
  · rw [upd_ne (Ne.symm M.apart)]
    exact I1.hok.fresh M.late
end
section
variable {X : Cx} {z : Cz} {W : WX} {r : Fs} {f : Addr} {nm qi : Str}
theorem js_raise {e : Expr} {me : E} {c k : Nat} {p pos pos2 : Pos} (hc : X.calm = true) (tk : Takes X W) (T : At.Txt X.K X.mg nm qi (z.cl c) f) (room : Room k X.A) (he : PE X e (trE z W r me)) (hg : Gl X nm) (hdb : (nm == ("__debug__" : Str)) = false := by decide)
    (s1 : starEach (e :: []) X.env = (false, eval e X.env) :: starEach [] X.env := by rfl) (s2 : (backTo pos (starEach [] X.env)).any (·.1) = false := by rfl) :
    PS X (.Raise (some (.Call (.Name nm p) [e] [] pos)) none pos2) (trS z W r (.raise c me)) := PS.imp (ps_raise hc tk (pmk_at T room (pa_cons he pa_nil s1) hg hdb s1 s2)) fun Dn σ H ⟨F, O, env, rel, w⟩ => by
  rw [denS] at w
  refine ⟨F, O, env, rel, wO.o w (denE_lm r me env) fun q env1 F1 H1 O1 _ s1 r1 st1 w1 => ?_⟩
  intro v t hq ft
  dsimp only at w1
  cases k : q.keep with
  | none => rw [k] at w1; exact w1.elim
  | some d =>
    rw [k] at w1
    obtain ⟨F2, rp, l1, l2, r2, kk⟩ := kept r1 hq ft k
    refine ⟨v, rfl, fun dx hdx => ?_⟩
    obtain ⟨s3, r3⟩ := Cz.Rel.ext r2 (Le.refl F2) (le_upd hdx (atD v)) (r2.le.trans (le_upd hdx _)) (fun _ _ h => .inl h)
    exact w1 σ F2 _ O1 dx v ((kept_step s1 l1 kk).trans s3) r3 st1 rp upd_same
end

/-! ### try with clauses that may have names -/
section
variable {X : Cx}
def slotd (i : Option Nat) (a : Addr) (σ : L2.St) : L2.St := match i with
  | some j => σ.set j (some (.ref a))
  | none => σ
def unslot (i : Option Nat) (σ : L2.St) : L2.St := match i with
  | some j => σ.set j none
  | none => σ
def endsOf (i : Option Nat) (Dn : Ends) : Ends := ⟨fun σ H => Dn.nx (unslot i σ) H, Dn.rt, fun σ H => Dn.bk (unslot i σ) H, fun σ H => Dn.ct (unslot i σ) H⟩
abbrev Cl := Value × Option Nat × (Addr → Value → Option Addr → TS)
/-- what the clauses wish of an error -/
def wCls (K : PySem.W.Frag) (W : WX) (Dn : Ends) : List Cl → WX
  | [] => W
  | p :: l => fun cls d σ H => ∃ b, PySem.W.exmOne K cls p.1 = some b ∧ (b = true → ∀ a, H a = none → p.2.2 a cls d (endsOf p.2.1 Dn) (slotd p.2.1 a σ) H) ∧ (b = false → wCls K W Dn l cls d σ H)
/-- the clauses' texts -/
inductive Clauses (X : Cx) : List ExceptHandler → List Cl → Prop
  | nil : Clauses X [] []
  | named {x y : Str} {v : Value} {j : Nat} {t : Addr → Value → Option Addr → TS} {st : Stmt} {sts : List Stmt} {p p' : Pos} {es : List ExceptHandler} {l : List Cl} (nx : Names X x v) (hj : X.N[j]? = some y) (hy : X.env.kindOf y = some .local)
      (body : ∀ a oe cls d pn, Zc cls d oe → (∃ fs, oe.data = .fields fs) → PSs (X.suite a ((a, oe) :: pn)) (st :: sts) (t a cls d)) (rest : Clauses X es l) : Clauses X (.ExceptHandler (some (.Name x p)) (some y) (st :: sts) p' :: es) ((v, some j, t) :: l)
  | plain {x : Str} {v : Value} {t : Addr → Value → Option Addr → TS} {st : Stmt} {sts : List Stmt} {p p' : Pos} {es : List ExceptHandler} {l : List Cl} (nx : Names X x v)
      (body : ∀ a oe cls d pn, Zc cls d oe → (∃ fs, oe.data = .fields fs) → PSs (X.suite a ((a, oe) :: pn)) (st :: sts) (t a cls d)) (rest : Clauses X es l) : Clauses X (.ExceptHandler (some (.Name x p)) none (st :: sts) p' :: es) ((v, none, t) :: l)
/-- the errors that a try's body lets out go to its clauses -/
def looked (X : Cx) (pins : List (Addr × Obj)) (Dn : Ends) (es : List ExceptHandler) : Value → Shared → Prop := fun e t =>
  wpAny (model X.prog X.w) X.A (noteFrame e X.env) (fun _ t1 => wpAny (model X.prog X.w) X.A (setFlight e none) (fun _ t2 =>
    wpAny (model X.prog X.w) X.A (handleBy e X.env es) (SP X pins Dn) X.xe t2) X.xe t1) X.xe t
section
variable {pins : List (Addr × Obj)} {Dn : Ends} {Wo : WX} {σ : L2.St} {H : Hp} {a : Addr} {cls : Value} {d : Option Addr} {G : Heap} {t0 t : Shared}
/-- the state around an error that was heard -/
structure Heard (X : Cx) (pins : List (Addr × Obj)) (σ : L2.St) (H : Hp) (a : Addr) (cls : Value) (d : Option Addr) (G : Heap) (t0 t : Shared) : Prop where
  inv : Inv X pins σ H t0
  low : ∀ b o, t0.heap.get? b = some o → b ∉ frs X.stack → G.get? b = some o
  up : t0.heap.UpToSlots t.heap
  fly : HandSPX.FlyingZ G (X.env :: X.outer) a (Zc cls d) t.heap
  na : H a = none
  os : t.os = t0.os
  ag : AllBare t.gens
theorem Heard.to {g : Heap} (h : Heard X pins σ H a cls d G t0 t) (fl : HandSPX.FlyingZ G (X.env :: X.outer) a (Zc cls d) g) (u : t.heap.UpToSlots g) : Heard X pins σ H a cls d G t0 { t with heap := g } :=
  ⟨h.inv, h.low, h.up.trans u, fl, h.na, h.os, h.ag⟩
theorem Heard.back (h : Heard X pins σ H a cls d G t0 t) : Inv X pins σ H t := h.inv.landed h.low h.fly.1 h.up h.os h.ag
/-- the suite's context -/
theorem Heard.suit (hf : X.env.frame = some X.env.locals) (h : Heard X pins σ H a cls d G t0 t) : ∃ oe, t.heap.get? a = some oe ∧ Zc cls d oe ∧ (∃ fs, oe.data = .fields fs) ∧ Inv (X.suite a ((a, oe) :: (X.pn ++ pins))) [] σ H t := by
  obtain ⟨oe, fs, e1, e2, e3⟩ := h.fly.there
  have away : a ∉ frs (X.env :: X.outer) := fun hm => by
    obtain ⟨_, o2, q1, q2⟩ := h.fly.2.2.1.mem hm
    rw [e1] at q1
    cases q1
    exact q2 _ e3
  refine ⟨oe, e1, e2, ⟨fs, e3⟩, h.back.suite e1 e3 h.na (fun q => away ?_) fun q => away ?_⟩
  · exact List.mem_filterMap.mpr ⟨X.env, List.mem_cons_self, by rw [hf, q]⟩
  · obtain ⟨e, m1, m2⟩ := List.mem_filterMap.mp q
    exact List.mem_filterMap.mpr ⟨e, List.mem_cons_of_mem _ m1, m2⟩
/-- no clause hears it -/
theorem Heard.pass {Q : Flow → Shared → Prop} (hs : X.stack = X.env :: X.outer) (hf : X.env.frame = some X.env.locals) (tk : Takes X Wo) (h : Heard X pins σ H a cls d G t0 t) (w : Wo cls d σ H) :
    wpAny (model X.prog X.w) X.A (handleBy (.ref a) X.env []) Q X.xe t := by
  refine wpAny_handleBy_nil ?_
  obtain ⟨_, _, _, oe, fs, tb, _, _, e1, _, e2, e3, _⟩ := id h.fly
  unfold PySem.passOn
  refine wpAny_bind (wpAny_field e1 e2 e3 ?_)
  rw [if_neg (by simp)]
  have out : wpAny (model X.prog X.w) X.A (setFlight (.ref a) X.env.frame) (fun _ t4 => wpAny (model X.prog X.w) X.A (throw (.ref a) : Sem Flow) Q X.xe t4) X.xe t := by
    rw [hf]
    refine HandSPX.setFlight_upZ h.fly fun g hh u => wpAny_throw (tk _ _ ?_)
    refine ⟨a, G, t0, pins, σ, H, cls, d, rfl, h.inv, h.low, h.up.trans u, ?_, h.na, h.os, h.ag, w⟩
    exact .inr (.inr (by rw [hs]; exact hh))
  first
    | exact wpAny_bind (wpAny_pure (wpAny_bind out))
    | exact wpAny_bind out
/-- a clause's class, looked up in the suite's context -/
theorem names_at {x : Str} {v : Value} {p : Pos} {q : Addr × Obj} {pl pl' : List (Addr × Obj)} {Q E : Value → Shared → Prop} (n : Names X x v) (I : Inv (X.suite a (q :: pl)) pl' σ H t) (k : Q v t) :
    wpAny (model X.prog X.w) (X.A.mark (some (.ref a))) (eval (.Name x p) X.env) Q E t := by
  obtain ⟨g, db, m | ⟨m, b, nn⟩⟩ := n
  · exact ld_glob (X := X.suite a (q :: pl)) I g m k db
  · exact ld_blt (X := X.suite a (q :: pl)) I g m b k nn db
/-- through the clauses -/
theorem Heard.through (hs : X.stack = X.env :: X.outer) (hf : X.env.frame = some X.env.locals) (hN : X.N.Nodup) (tk : Takes X Wo) (h : Heard X pins σ H a cls d G t0 t) : ∀ {es : List ExceptHandler} {l : List Cl}, Clauses X es l → wCls X.K Wo Dn l cls d σ H →
    wpAny (model X.prog X.w) X.A (handleBy (.ref a) X.env es) (SP X pins Dn) X.xe t := by
  have ok := h.inv.ok
  obtain ⟨oe, e1, e2, e3, I⟩ := h.suit hf
  have sort : PySem.W.Looks (model X.prog X.w) t.heap (typeOf (.ref a)) cls := fun A Q E s k q => wpAny_typeOf_ref (k _ _ e1) (by rw [e2.1]; exact q)
  intro es l c
  induction c with
  | nil => exact fun w => h.pass hs hf tk w
  | @named x y v j tt st sts p p' es l nx hj hy body rest ih =>
    rintro ⟨b, hb, yes, no⟩
    refine wpAny_handleBy_cons (codeAny_handlers_test ?_) (by intro q; cases q)
    refine names_at nx I ((PySem.W.exm_one (M := model X.prog X.w) I.kIn sort hb).here ?_)
    cases b with
    | false => exact ih (no rfl)
    | true =>
      refine codeAny_handlers_suite_as (HandSPX.lands_againZ h.fly fun g fl u => ?_)
      have h4 := h.to fl u
      obtain ⟨o4, _, z4, d4, I4⟩ := h4.suit hf
      refine store_ok (X := X.suite a _) (v := .ref a) I4 hN hj (.inl hy) rfl (fun t5 I5 => ?_) (.inr hy)
      refine wpAny_mono ((body a o4 cls d (X.pn ++ pins) z4 d4).run [] t5 _ H _ I5 (yes rfl a h.na)) (fun fl6 t6 sp => ?_) fun _ _ q => q.elim
      have gone : ∀ {σ6 : L2.St} {H6 : Hp} {Q : Shared → Prop}, Inv (X.suite a ((a, o4) :: (X.pn ++ pins))) [] σ6 H6 t6 → (∀ t7, Inv X pins (σ6.set j none) H6 t7 → Q t7) → wpAny (model X.prog X.w) X.A (do bindName X.env y .none; unbindBehindTheSuite X.env y p') (fun _ t7 => Q t7) X.xe t6 :=
        fun I6 k => gone_ok (I6.unsuite ok) hN hj hy k
      cases fl6 with
      | next => obtain ⟨σ6, H6, I6, q⟩ := sp; exact gone I6 fun t7 I7 => ⟨_, _, I7, q⟩
      | brk => obtain ⟨σ6, H6, I6, q⟩ := sp; exact gone I6 fun t7 I7 => ⟨_, _, I7, q⟩
      | cont => obtain ⟨σ6, H6, I6, q⟩ := sp; exact gone I6 fun t7 I7 => ⟨_, _, I7, q⟩
      | ret u => obtain ⟨v6, σ6, H6, I6, k, q⟩ := sp; exact gone I6 fun t7 I7 => ⟨_, _, _, I7, k, q⟩
  | @plain x v tt st sts p p' es l nx body rest ih =>
    rintro ⟨b, hb, yes, no⟩
    refine wpAny_handleBy_cons (codeAny_handlers_test ?_) (by intro q; cases q)
    refine names_at nx I ((PySem.W.exm_one (M := model X.prog X.w) I.kIn sort hb).here ?_)
    cases b with
    | false => exact ih (no rfl)
    | true =>
      refine codeAny_handlers_suite (HandSPX.lands_againZ h.fly fun g fl u => ?_)
      have h4 := h.to fl u
      obtain ⟨o4, _, z4, d4, I4⟩ := h4.suit hf
      refine wpAny_mono ((body a o4 cls d (X.pn ++ pins) z4 d4).run [] _ _ H _ I4 (yes rfl a h.na)) (fun fl6 t6 sp => ?_) fun _ _ q => q.elim
      cases fl6 with
      | next => obtain ⟨σ6, H6, I6, q⟩ := sp; exact ⟨_, _, I6.unsuite ok, q⟩
      | brk => obtain ⟨σ6, H6, I6, q⟩ := sp; exact ⟨_, _, I6.unsuite ok, q⟩
      | cont => obtain ⟨σ6, H6, I6, q⟩ := sp; exact ⟨_, _, I6.unsuite ok, q⟩
      | ret u => obtain ⟨v6, σ6, H6, I6, k, q⟩ := sp; exact ⟨_, _, _, I6.unsuite ok, k, q⟩
end
theorem ps_tryC {body : List Stmt} {e0 : ExceptHandler} {es : List ExceptHandler} {l : List Cl} {pos : Pos} {tb : WX → TS} {Wo : WX} (hs : X.stack = X.env :: X.outer) (hf : X.env.frame = some X.env.locals) (hN : X.N.Nodup) (tk : Takes X Wo)
    (hb : ∀ (V : WX) (pn : List (Addr × Obj)) (xe : Value → Shared → Prop), Takes (X.tr pn xe) V → PassesOwn (model X.prog X.w) X.A X.env xe → PSs (X.tr pn xe) body (tb V)) (hc : Clauses X (e0 :: es) l) :
    PS X (.Try body (e0 :: es) [] [] pos) (fun Dn σ H => tb (wCls X.K Wo Dn l) Dn σ H) := by
  refine ⟨fun pins s σ H Dn I h => wpAny_Try_except ?_⟩
  have ok := I.ok
  have frm : X.A.frames = some (X.env :: X.outer) := by rw [ok.frames, hs]
  have tk2 : Takes (X.tr (X.pn ++ pins) (looked X pins Dn (e0 :: es))) (wCls X.K Wo Dn l) := by
    rintro u t ⟨a, G, t0, pl, σ1, H1, cls, d, rfl, I1, low, up, sky, na, os, ag, w⟩
    have sky2 : Sky G (X.env :: X.outer) a (Zc cls d) X.env.locals t.heap := by rw [← hs]; exact sky
    refine Sky.land Zc.steady frm hf sky2 fun g fl u => ?_
    exact Heard.through (t := { t with heap := g }) hs hf hN tk ⟨I1.ofTry ok, low, up.trans u, fl, na, os, ag⟩ hc w
  have run := (hb _ _ _ tk2 (by unfold looked; exact PassesOwn.looking)).run [] s σ H Dn (I.toTry _) h
  refine wpAny_mono run (fun fl t sp => ?_) fun e t he => he
  cases fl with
  | next => obtain ⟨σ1, H1, I1, q⟩ := sp; exact wpAny_execs_nil ⟨σ1, H1, I1.ofTry ok, q⟩
  | brk => obtain ⟨σ1, H1, I1, q⟩ := sp; exact ⟨σ1, H1, I1.ofTry ok, q⟩
  | cont => obtain ⟨σ1, H1, I1, q⟩ := sp; exact ⟨σ1, H1, I1.ofTry ok, q⟩
  | ret u => obtain ⟨v, σ1, H1, I1, k, q⟩ := sp; exact ⟨v, σ1, H1, I1.ofTry ok, k, q⟩
end

/-! ### the judgement -/
def Cz.put (z : Cz) (a d : Addr) : Cz := { z with xa := a, xd := d }
def clsOf (z : Cz) (r : Fs) : Hd → List Value → List Cl
  | .cons cs ds i b hs, v :: vs => (v, i, fun a c d Dn σ H => ∃ k dd, c = .ref (z.cl k) ∧ d = some dd ∧ k ∈ cs ∧ trSs (z.put a dd) Wf r b Dn σ H) :: clsOf z r hs vs
  | _, _ => []
/-- which classes the clauses' classes hear -/
def Hears (K : PySem.W.Frag) (z : Cz) : Hd → List Value → Prop
  | .cons cs ds _ _ hs, v :: vs => (∀ k ∈ cs, PySem.W.exmOne K (.ref (z.cl k)) v = some true) ∧ (∀ k ∈ ds, PySem.W.exmOne K (.ref (z.cl k)) v = some false) ∧ Hears K z hs vs
  | .nil, [] => True
  | _, _ => False
theorem noEx_slot {env : Env} (h : noExs env = true) {i : Nat} {m : M} (e : slot i env = some m) : noEx m = true := by
  unfold noExs at h
  have := List.all_eq_true.mp h _ (List.mem_of_getElem? (slot_some e))
  cases m with
  | ex c d => simp at this
  | _ => rfl
theorem RSs.recz {F H : Hp} {xa xd xa' xd' : Addr} : ∀ {env : Env} {σ : L2.St} {O : List Addr}, noExs env = true → RSs F H xa xd env σ O → RSs F H xa' xd' env σ O
  | [], _, _, _, h => h
  | m :: env, _, _, n, h => by
    obtain ⟨o, r, x, y, e1, e2, h1, h2⟩ := h
    have n2 : noExs env = true := by
      unfold noExs at n ⊢
      rw [List.all_cons, Bool.and_eq_true] at n
      exact n.2
    refine ⟨o, r, x, y, e1, e2, ?_, RSs.recz n2 h2⟩
    cases m with
    | none => exact h1
    | some m =>
      obtain ⟨v, e3, h3⟩ := h1
      exact ⟨v, e3, h3.any (noEx_slot (i := 0) n (by simp [slot]))⟩
theorem rel_put {z : Cz} {F H : Hp} {env : Env} {σ : L2.St} {O : List Addr} {a d : Addr} (n : noExs env = true) (rel : z.Rel F H env σ O) : (z.put a d).Rel F H env σ O := ⟨rel.le, rel.ss.recz n, rel.nd⟩
theorem rel_unput {z : Cz} {F H : Hp} {env : Env} {σ : L2.St} {O : List Addr} {a d : Addr} (n : noExs env = true) (rel : (z.put a d).Rel F H env σ O) : z.Rel F H env σ O := ⟨rel.le, rel.ss.recz n, rel.nd⟩
theorem forget_rel {z : Cz} {F H : Hp} {env : Env} {σ : L2.St} {O : List Addr} {i : Option Nat} (rel : z.Rel F H env σ O) : ∃ O2, z.Rel F H (forget i env) (unslot i σ) O2 ∧ (∀ a ∈ O2, a ∈ O) ∧ Stay env (forget i env) σ (unslot i σ) := by
  cases i with
  | none => exact ⟨O, rel, fun _ h => h, Stay.refl _ _⟩
  | some j =>
    obtain ⟨O2, r2, l2⟩ := wipe_rel (vs := [j]) rel
    refine ⟨O2, r2, l2, fun i hi => ?_⟩
    have hi' : lent i (env.set j none) = true := hi
    unfold lent at hi'
    rw [slot_set] at hi'
    by_cases c : i = j
    · subst c
      by_cases hl : i < env.length
      · rw [if_pos ⟨rfl, hl⟩] at hi'; cases hi'
      · rw [if_neg (fun x => hl x.2)] at hi'
        unfold slot at hi'
        rw [List.getElem?_eq_none (by omega)] at hi'
        cases hi'
    · rw [if_neg (fun x => c x.1)] at hi'
      exact ⟨hi', List.getElem?_set_ne (Ne.symm c)⟩
section
variable {X : Cx} {z : Cz} {W : WX} {r : Fs}
theorem hear_in {F H : Hp} {env env2 : Env} {σ : L2.St} {O : List Addr} {i : Option Nat} {k : Nat} {d : D} {a dx : Addr} {v : V} (rel : z.Rel F H env σ O) (h : hear i k d env = some env2) (hd : H dx = some (atD v)) (rp : Rep F d v) :
    ∃ O2, (z.put a dx).Rel F H env2 (slotd i a σ) O2 ∧ (∀ b ∈ O2, b ∈ O) ∧ Stay env env2 σ (slotd i a σ) := by
  unfold hear at h
  by_cases n : noExs env = true
  · rw [if_pos n] at h
    have r1 : (z.put a dx).Rel F H env σ O := rel_put n rel
    cases i with
    | none =>
      cases h
      exact ⟨O, r1, fun _ h => h, Stay.refl _ _⟩
    | some j =>
      obtain ⟨O2, r2, l2, st⟩ := put_in r1 h (v := .ref a) (t := []) ⟨rfl, rfl, v, hd, rp⟩ List.nodup_nil (fun _ h => (nomatch h)) rfl
      exact ⟨O2, r2, fun b hb => (l2 b hb).resolve_right (fun h => nomatch h), st⟩
  · rw [if_neg n] at h; cases h
theorem cls_in {K : PySem.W.Frag} {Dn : Ends} {F H F' H' : Hp} {O O' : List Addr} {σ σ' : L2.St} {env env1 : Env} {k : Nat} {d : D} {dx : Addr} {v : V} (s : Step F H O F' H' O') (rel : z.Rel F' H' env1 σ' O') (st : Stay env env1 σ σ') (rp : Rep F' d v) (hd : H' dx = some (atD v)) :
    ∀ {mh : Hd} {vs : List Value}, Hears K z mh vs → wO z W (denH r mh k d env1) F H O σ env Dn → wCls K W Dn (clsOf z r mh vs) (.ref (z.cl k)) (some dx) σ' H'
  | .nil, [], _, w => w σ' F' H' O' dx v s rel st rp hd
  | .nil, _ :: _, h, _ => h.elim
  | .cons _ _ _ _ _, [], h, _ => h.elim
  | .cons cs ds i b hs, u :: vs, h, w => by
    obtain ⟨h1, h2, h3⟩ := h
    rw [denH] at w
    by_cases ck : cs.contains k = true
    · rw [if_pos ck] at w
      have mk : k ∈ cs := by simpa using ck
      refine ⟨true, h1 k mk, fun _ a ha => ⟨k, dx, rfl, rfl, mk, ?_⟩, fun q => by cases q⟩
      cases e : hear i k d env1 with
      | none => rw [e] at w; exact w.elim
      | some env2 =>
        rw [e] at w
        dsimp only at w
        obtain ⟨O2, r2, l2, st2⟩ := hear_in (a := a) rel e hd rp
        refine ⟨F', O2, env2, r2, ?_⟩
        -- behind the suite
        have fin : ∀ {env3 : Env} {σ3 : L2.St} {F3 H3 : Hp} {O3 : List Addr}, noExs (forget i env3) = true → Step F' H' O2 F3 H3 O3 → (z.put a dx).Rel F3 H3 env3 σ3 O3 → Stay env2 env3 (slotd i a σ') σ3 →
            ∃ O4, Step F H O F3 H3 O4 ∧ z.Rel F3 H3 (forget i env3) (unslot i σ3) O4 ∧ Stay env (forget i env3) σ (unslot i σ3) ∧ ∀ b ∈ O4, b ∈ O3 := fun n s3 r3 st3 => by
          obtain ⟨O4, r4, l4, st4⟩ := forget_rel (i := i) r3
          exact ⟨O4, ((s.less l2).trans s3).less l4, rel_unput n r4, st.trans (st2.trans (st3.trans st4)), l4⟩
        cases e2 : denSs r b env2 with
        | stuck => rw [e2] at w; exact w.elim
        | exc c' d' e3 => rw [e2] at w; exact w.elim
        | nx e3 =>
          rw [e2] at w
          dsimp only at w
          by_cases n : noExs (forget i e3) = true
          · rw [if_pos n] at w
            intro σ3 F3 H3 O3 s3 r3 st3
            obtain ⟨O4, s4, r4, st4, _⟩ := fin n s3 r3 st3
            exact w _ F3 H3 O4 s4 r4 st4
          · rw [if_neg n] at w; exact w.elim
        | bk e3 =>
          rw [e2] at w
          dsimp only at w
          by_cases n : noExs (forget i e3) = true
          · rw [if_pos n] at w
            intro σ3 F3 H3 O3 s3 r3 st3
            obtain ⟨O4, s4, r4, st4, _⟩ := fin n s3 r3 st3
            exact w _ F3 H3 O4 s4 r4 st4
          · rw [if_neg n] at w; exact w.elim
        | ct e3 =>
          rw [e2] at w
          dsimp only at w
          by_cases n : noExs (forget i e3) = true
          · rw [if_pos n] at w
            intro σ3 F3 H3 O3 s3 r3 st3
            obtain ⟨O4, s4, r4, st4, _⟩ := fin n s3 r3 st3
            exact w _ F3 H3 O4 s4 r4 st4
          · rw [if_neg n] at w; exact w.elim
        | rt m e3 =>
          rw [e2] at w
          dsimp only at w
          by_cases n : noExs (forget i e3) = true
          · rw [if_pos n] at w
            refine ⟨w.1, fun v3 σ3 F3 H3 O3 t s3 r3 st3 rm nd ft => ?_⟩
            obtain ⟨O4, s4, r4, st4, l4⟩ := fin n s3 r3 st3
            refine w.2 v3 _ F3 H3 O4 t s4 r4 st4 (rm.any (plain_noEx w.1)) nd fun b hb => ⟨fun hm => (ft b hb).1 (l4 b hm), ?_⟩
            rcases (ft b hb).2 with y | y
            · exact s.ownd b (l2 b y)
            · exact .inr (s.back y)
          · rw [if_neg n] at w; exact w.elim
    · rw [if_neg ck] at w
      by_cases dk : ds.contains k = true
      · rw [if_pos dk] at w
        exact ⟨false, h2 k (by simpa using dk), fun q => (by cases q), fun _ => cls_in s rel st rp hd h3 w⟩
      · rw [if_neg dk] at w; exact w.elim
theorem js_try {body : List Stmt} {e0 : ExceptHandler} {es : List ExceptHandler} {mb : Ss} {mh : Hd} {vs : List Value} {pos : Pos} (hs : X.stack = X.env :: X.outer) (hf : X.env.frame = some X.env.locals) (hN : X.N.Nodup) (tk : Takes X W)
    (hb : ∀ (V : WX) (pn : List (Addr × Obj)) (xe : Value → Shared → Prop), Takes (X.tr pn xe) V → PassesOwn (model X.prog X.w) X.A X.env xe → PSs (X.tr pn xe) body (trSs z V r mb)) (hh : Hears X.K z mh vs) (hc : Clauses X (e0 :: es) (clsOf z r mh vs)) :
    PS X (.Try body (e0 :: es) [] [] pos) (trS z W r (.try_ mb mh)) := PS.imp (ps_tryC (tb := fun V => trSs z V r mb) hs hf hN tk hb hc) fun Dn σ H ⟨F, O, env, rel, w⟩ => by
  rw [denS] at w
  refine ⟨F, O, env, rel, ?_⟩
  cases e : denSs r mb env with
  | stuck => rw [e] at w; exact w
  | nx e1 => rw [e] at w; exact w
  | bk e1 => rw [e] at w; exact w
  | ct e1 => rw [e] at w; exact w
  | rt m e1 => rw [e] at w; exact w
  | exc k d e1 =>
    rw [e] at w
    exact fun σ' F' H' O' dx v s r1 st rp hd => cls_in s r1 st rp hd hh w
theorem jh_nil : Clauses X [] (clsOf z r .nil []) := .nil
theorem jh_named {x y : Str} {v : Value} {j : Nat} {st : Stmt} {sts : List Stmt} {p p' : Pos} {es : List ExceptHandler} {cs ds : List Nat} {b : Ss} {hs : Hd} {vs : List Value} (nx : Names X x v) (hj : X.N[j]? = some y) (hy : X.env.kindOf y = some .local)
    (body : ∀ a oe k dd pn, k ∈ cs → Zc (.ref (z.cl k)) (some dd) oe → (∃ fs, oe.data = .fields fs) → PSs (X.suite a ((a, oe) :: pn)) (st :: sts) (trSs (z.put a dd) Wf r b)) (rest : Clauses X es (clsOf z r hs vs)) :
    Clauses X (.ExceptHandler (some (.Name x p)) (some y) (st :: sts) p' :: es) (clsOf z r (.cons cs ds (some j) b hs) (v :: vs)) := by
  refine .named nx hj hy (fun a oe cls d pn hz hf => ⟨fun pins s σ H Dn I h => ?_⟩) rest
  obtain ⟨k, dd, rfl, rfl, hk, h⟩ := h
  exact (body a oe k dd pn hk hz hf).run pins s σ H Dn I h
theorem jh_plain {x : Str} {v : Value} {st : Stmt} {sts : List Stmt} {p p' : Pos} {es : List ExceptHandler} {cs ds : List Nat} {b : Ss} {hs : Hd} {vs : List Value} (nx : Names X x v)
    (body : ∀ a oe k dd pn, k ∈ cs → Zc (.ref (z.cl k)) (some dd) oe → (∃ fs, oe.data = .fields fs) → PSs (X.suite a ((a, oe) :: pn)) (st :: sts) (trSs (z.put a dd) Wf r b)) (rest : Clauses X es (clsOf z r hs vs)) :
    Clauses X (.ExceptHandler (some (.Name x p)) none (st :: sts) p' :: es) (clsOf z r (.cons cs ds none b hs) (v :: vs)) := by
  refine .plain nx (fun a oe cls d pn hz hf => ⟨fun pins s σ H Dn I h => ?_⟩) rest
  obtain ⟨k, dd, rfl, rfl, hk, h⟩ := h
  exact (body a oe k dd pn hk hz hf).run pins s σ H Dn I h
/-- e.at, e the error that the clause holds -/
theorem je_exAt {a dd : Addr} {oe : Obj} {k i : Nat} {pn : List (Addr × Obj)} {x : Str} {px pos : Pos} (T : ∃ nm qi f, At.Txt X.K X.mg nm qi (z.cl k) f) (hz : Zc (.ref (z.cl k)) (some dd) oe) (hf : ∃ fs, oe.data = .fields fs) (hN : X.N[i]? = some x := by rfl)
    (hv : Vis X.env.scope x := by first | exact Or.inl rfl | exact Or.inr (Or.inl rfl) | exact Or.inr (Or.inr rfl)) (hd : (x == ("__debug__" : Str)) = false := by decide) (hcd : (x == ("__classdict__" : Str)) = false := by decide)
    (hb : attributeBase (.Name x px) "at" X.env (eval (.Name x px) X.env) = eval (.Name x px) X.env := by rfl) :
    PE (X.suite a ((a, oe) :: pn)) (.Attribute (.Name x px) "at" pos) (trE (z.put a dd) W r (.exAt i)) := by
  obtain ⟨nm, qi, f, T⟩ := T
  have pv : PE (X.suite a ((a, oe) :: pn)) (.Name x px) _ := pe_var (X := X.suite a ((a, oe) :: pn)) hN hv hd hcd
  refine ⟨fun pins s σ H Q I h => ?_⟩
  obtain ⟨F, O, env, rel, w⟩ := h
  rw [denE_exAt] at w
  split at w
  · rename_i c d hs
    obtain ⟨u, as, k1, k2, _⟩ := slot_val rel hs
    obtain ⟨_, e2, v, hdd, rp⟩ := k2
    have q := w F H O (Step.refl _ _ _) rel v [] ⟨rfl, rp⟩ (Fresh.nil _ _)
    refine attr_of hb (thn (pv.run pins s σ H (fun y H2 => y = .ref a ∧ H2 = H) I ⟨u, k1, e2, rfl⟩) fun y s1 hh => ?_)
    obtain ⟨y', H1, I1, ry, ey, eH⟩ := hh
    subst ey eH
    obtain rfl : y = Value.ref a := ry
    obtain ⟨ea, _⟩ := I1.pin (a, oe) (List.mem_append_left _ List.mem_cons_self)
    obtain ⟨fs, ed⟩ := hf
    obtain ⟨mA, ns, rel2⟩ := (show ObjOk X.prog X.w H1 s1.heap dd (atD v) from I1.hok dd _ hdd)
    obtain ⟨od, ho, hl⟩ := lookIn_ns ns
    have l : List.lookup atK [(atK, v)] = some v := by simp [List.lookup]
    obtain ⟨uu, hu, ru⟩ := RelO.some_of (v := v) (o := mA "at") (by rw [← l]; exact rel2 "at")
    have J : PySem.W.InstAt s1.heap a oe (z.cl k) (some od) := ⟨ea, hz.1, by unfold PySem.W.notCls; rw [ed] <;> rfl, by rw [hz.2]; exact ho⟩
    exact HandSPX.exc_get I1.kIn J T.get_ T.get2 T.exc (PySem.W.findObj_own T.dict T.bare rfl (by rw [hl]; exact congrArg some hu)) (handed_of ru) ⟨v, H1, I1.tok _, ru, q⟩
  · exact w.elim
end
end Rx

/-! RxFn -/
/-! RxFn: defs and their calls, where it is known that no text of a list is under way; the law's own call. -/
set_option linter.all false
set_option Elab.async false
set_option maxRecDepth 100000
set_option maxHeartbeats 4000000
namespace Rx
open PySem PySem.Spec PyProof.Rows L2

structure FnG (P : Program) (w : World) (K : PySem.W.Frag) (mg : Str → Option Value) (base : Heap) (k : Nat) (f : Addr) (fd : FuncData) (ps : List Str) (sp : Sp) : Prop where
  len : ∀ vs H Q E, sp vs H Q E → vs.length = ps.length
  run : ∀ (A : Around) (outer : List PySem.Env) (s : Shared) (H : Hp) (args : Args) (us : List Value) (vs : List V) (Q : VK) (E : XK), Room k A → A.guards = some [] → Env0 P w K mg base A outer s H →
    BindsTo s fd args (ps.zip us) → Vals vs us → sp vs H Q E → codeAny (model P w) A (.call (.ref f) args) (CR (L2.CX P w) outer P w H s Q E) s
section
variable {P : Program} {w : World} {K : PySem.W.Frag} {mg : Str → Option Value} {base : Heap} {k : Nat} {f : Addr} {fd : FuncData} {N ps : List Str} {sp : Sp}
theorem FnG.mono {j : Nat} (G : FnG P w K mg base j f fd ps sp) (h : j ≤ k) : FnG P w K mg base k f fd ps sp := ⟨G.len, fun A outer s H args us vs Q E room => G.run A outer s H args us vs Q E (room.mono h)⟩
theorem FnG.imp {sp' : Sp} (G : FnG P w K mg base k f fd ps sp) (h : ∀ vs H Q E, sp' vs H Q E → sp vs H Q E) : FnG P w K mg base k f fd ps sp' :=
  ⟨fun vs H Q E q => G.len vs H Q E (h _ _ _ _ q), fun A outer s H args us vs Q E room g e0 b r q => G.run A outer s H args us vs Q E room g e0 b r (h _ _ _ _ q)⟩
/-- a def as it stands behind the top, whatever its defaults -/
def FunX (K : PySem.W.Frag) (x qual : Str) (st : Stmt) (f : Addr) (fd : FuncData) : Prop := ∃ (oc : Value) (od : Option Addr) (dV kV doc pm : Value) (an : Option Addr) (cd ct : Value) (osl : Array (Option Value)),
  fd = PySem.W.fnOf x qual (defArgs st) (defBody st) (defScope st) dV kV doc pm an cd ct ∧ K.lookup f = some ⟨oc, od, .func fd, osl⟩ ∧ PySem.W.codeIn K cd qual = true
theorem FunX.of {x qual : Str} {st : Stmt} (F : Fun K x qual st f fd) : FunX K x qual st f fd := by
  obtain ⟨oc, od, kV, doc, pm, an, cd, ct, osl, e, lk, c⟩ := F.ex
  exact ⟨oc, od, _, kV, doc, pm, an, cd, ct, osl, e, lk, c⟩
theorem FunX.ofD {x qual : Str} {st : Stmt} {dvs : List V} {kws : List (Str × V)} (F : FunD K x qual (defArgs st) (defBody st) (defScope st) dvs kws f fd) : FunX K x qual st f fd := by
  obtain ⟨oc, od, dV, kV, doc, pm, an, cd, ct, osl, e, lk, c, _⟩ := F.ex
  exact ⟨oc, od, dV, kV, doc, pm, an, cd, ct, osl, e, lk, c⟩
theorem fnG_mk {x qual : Str} {st : Stmt} (F : FunX K x qual st f fd) (S : FnScope N ps (defScope st)) (len : ∀ vs H Q E, sp vs H Q E → vs.length = ps.length)
    (body : ∀ (cd : Value) (A : Around) (outer : List PySem.Env) (s : Shared) (H : Hp) (vs : List V) (Q : VK) (E : XK), Room k (A.deeper (envOfC qual (defScope st) s.heap.objs.size f cd)) → A.guards = some [] → sp vs H Q E →
      ∃ t, PSs (cxOf (L2.CX P w) P w K mg base N qual (defScope st) f cd A outer s H E) (defBody st) t ∧ t ⟨fun _ H' => Q .non H', Q, fun _ _ => False, fun _ _ => False⟩ (start N vs) H) : FnG P w K mg base (k + 1) f fd ps sp := by
  obtain ⟨oc, od, dV, kV, doc, pm, an, cd, ct, osl, rfl, lk, rec_⟩ := F
  refine ⟨len, fun A outer s H args us vs Q E room g e0 b r q => ?_⟩
  have nargs := len _ _ _ _ q
  have kin : K.In s.heap := e0.mod.kin.keeps fun a o e => (e0.bs a o e).1
  have nolim : s.heap.NoLimit := e0.mod.nolimit.keeps fun a o e => (e0.bs a o e).1
  have place : ∀ y ∈ ps.zip us, (defScope st).names.lookup y.1 = some .local ∨ ((defScope st).names.lookup y.1 = some .cell ∧ ((cellsFrom (s.heap.objs.size + 1) (defScope st).names []).lookup y.1).isSome = true) := by
    rintro ⟨n, v⟩ hy
    exact (S.par n (List.of_mem_zip hy).1).imp id fun c => ⟨c, PySem.W.cellsFrom_some _ _ _ (.inl c)⟩
  refine codeAny_call_function room.depth (kin _ _ lk) rfl S.co S.gen rfl (PySem.W.codeRec_of kin rec_) (b _ _ _ _ (wpAny_newFunctionEnv_cells S.kind place fun env ee s1 x => ?_))
  subst ee
  refine ⟨nolim.keeps x.toInCall.keep, codeAny_func ?_⟩
  obtain ⟨t, pt, qt⟩ := body cd A outer s H vs Q E (room.deeper _) g q
  have I := inv_start (CX := L2.CX P w) (E := E) S room.hd e0 nargs r x
  refine wpAny_mono (pt.run [] s1 (start N vs) H _ I qt) (fun fl s' sp => ?_) fun e s' h => h
  cases fl with
  | brk => obtain ⟨_, _, _, z⟩ := sp; exact z.elim
  | cont => obtain ⟨_, _, _, z⟩ := sp; exact z.elim
  | next => obtain ⟨σ', H', J, z⟩ := sp; exact ⟨V.non, H', J.os, J.bare, J.base, J.hok, rfl, z⟩
  | ret u => obtain ⟨v, σ', H', J, rv, z⟩ := sp; exact ⟨v, H', J.os, J.bare, J.base, J.hok, rv, z⟩
end

/-! ### calls -/
section
variable {X : Cx} {k : Nat} {f : Addr} {fd : FuncData} {ps : List Str} {sp : Sp} {E : L2.St → XK} {x : Str} {p pos : Pos}
theorem FnG.called {pins : List (Addr × Obj)} {σ : L2.St} {H : Hp} {s : Shared} {Q : VK} {args : Args} {us : List Value} {vs : List V} (G : FnG X.prog X.w X.K X.mg X.base k f fd ps sp) (room : Room k X.A) (g : X.A.guards = some []) (b : vs.length = ps.length → BindsTo s fd args (ps.zip us))
    (hx : PassesAt (L2.CX X.prog X.w) X σ (E σ)) (I : Inv X pins σ H s) (r : Vals vs us) (h : sp vs H Q (E σ)) : wpAny (model X.prog X.w) X.A (call (.ref f) args.pos args.kw) (EP X pins σ Q) X.xe s := by
  refine wpAny_call (codeAny_mono (G.run X.A X.stack s H args us vs Q (E σ) room g I.env0 (b (G.len _ _ _ _ h)) r h) fun res s' q => ?_)
  cases res with
  | error e => exact hx pins H s e s' I q
  | ok fl =>
    cases fl with
    | ret u => exact I.after q
    | next => exact q.elim
    | brk => exact q.elim
    | cont => exact q.elim

variable {e : Expr} {es : List Expr} {t : TA}
theorem pe_callG (G : FnG X.prog X.w X.K X.mg X.base k f fd ps sp) (room : Room k X.A) (g : X.A.guards = some []) (hm : X.mg x = some (.ref f)) (hk : PySem.W.keepIn X.K (.ref f) = true) (hb : Binds X.K fd ps []) (hx : ∀ σ, PassesAt (L2.CX X.prog X.w) X σ (E σ))
    (ha : PA X (e :: es) t) (hg : Gl X x := by rfl) (hdb : (x == ("__debug__" : Str)) = false := by decide) (s1 : starEach (e :: es) X.env = (false, eval e X.env) :: starEach es X.env := by rfl) (s2 : (backTo pos (starEach es X.env)).any (·.1) = false := by rfl) :
    PE X (.Call (.Name x p) (e :: es) [] pos) (fun σ H Q => t σ H fun vs H1 => sp vs H1 Q (E σ)) := by
  refine ⟨fun pins s σ H Q I h => wpAny_Call_Name_kw (ld_glob I hg hm ?_ hdb)⟩
  refine PySem.W.callWith_K (h₀ := X.base) I.ok.mod.kin hk (thn (ha.run pos pins s σ H _ I h) fun us t1 ⟨vs, H1, I1, r, q⟩ => ⟨I1.kIn, ?_⟩) s1 s2
  refine G.called (args := ⟨us, []⟩) room g (fun hl => ?_) (hx σ) I1 r q
  have b := hb t1 us I1.kIn (by rw [List.append_nil, ← r.length]; exact hl)
  rwa [List.append_nil] at b
/-- how a call by names alone binds -/
def Named (K : PySem.W.Frag) (fd : FuncData) (ps ns : List Str) (ks : List Nat) : Prop := ∀ (s : Shared) (ws : List Value), K.In s.heap → ws.length = ps.length → BindsTo s fd ⟨[], ns.zip ws⟩ (ps.zip (order .none ks ws))
theorem vals_map {α : Type} {fv : α → V} {fu : α → Value} (h : ∀ a, RelV (fv a) (fu a)) : ∀ l : List α, Vals (l.map fv) (l.map fu)
  | [] => .nil
  | a :: l => .cons (h a) (vals_map h l)
theorem vals_order {zs : List V} {ws : List Value} (r : Vals zs ws) (ks : List Nat) : Vals (order .non ks zs) (order .none ks ws) := by
  unfold order
  rw [r.length]
  refine vals_map (fun p => ?_) _
  cases e : zs[ks.idxOf p]? with
  | none =>
    have h : ws[ks.idxOf p]? = none := by
      have h1 := List.getElem?_eq_none_iff.mp e
      rw [r.length] at h1
      exact List.getElem?_eq_none_iff.mpr h1
    rw [h]
    exact rfl
  | some v =>
    obtain ⟨u, h, ru⟩ := r.get e
    rw [h]
    exact ru
theorem pe_callN {kws : List Keyword} {ns : List Str} {ks : List Nat} (G : FnG X.prog X.w X.K X.mg X.base k f fd ps sp) (room : Room k X.A) (g : X.A.guards = some []) (hm : X.mg x = some (.ref f)) (hk : PySem.W.keepIn X.K (.ref f) = true) (hb : Named X.K fd ps ns ks)
    (hx : ∀ σ, PassesAt (L2.CX X.prog X.w) X σ (E σ)) (hkw : PK X kws t) (hg : Gl X x := by rfl) (s1 : (backToKw pos (keywordEach kws X.env)).all (·.1.isSome) = true := by rfl) (s2 : (backToKw pos (keywordEach kws X.env)).filterMap (·.1) = ns := by rfl)
    (hdb : (x == ("__debug__" : Str)) = false := by decide) (s3 : ((backTo pos (starEach [] X.env)).any (·.1) || (backToKw pos (keywordEach kws X.env)).any (·.1.isNone)) = false := by rfl) :
    PE X (.Call (.Name x p) [] kws pos) (fun σ H Q => t σ H fun zs H1 => sp (order .non ks zs) H1 Q (E σ)) := by
  refine ⟨fun pins s σ H Q I h => wpAny_Call_Name_kw (ld_glob I hg hm ?_ hdb)⟩
  refine PySem.W.callWith_KW0 (h₀ := X.base) I.ok.mod.kin hk s1 (thn (hkw.run pos pins s σ H _ I h) fun ws t1 ⟨zs, H1, I1, r, q⟩ => ⟨I1.kIn, ?_⟩) s3
  rw [s2]
  refine G.called (args := ⟨[], ns.zip ws⟩) room g (fun hl => hb t1 ws I1.kIn ?_) (hx σ) I1 (vals_order r ks) q
  rw [← r.length]
  unfold order at hl
  simpa using hl
end
section
variable {X : Cx} {z : Cz} {W : WX} {r : Fs} {k fi : Nat} {f : Addr} {fd : FuncData} {ps : List Str} {x : Str} {p pos : Pos}
theorem je_callG {e : Expr} {es : List Expr} {mes : Es} (G : FnG X.prog X.w X.K X.mg X.base k f fd ps (spM z.cl (r fi))) (room : Room k X.A) (g : X.A.guards = some []) (hm : X.mg x = some (.ref f)) (hk : PySem.W.keepIn X.K (.ref f) = true) (hb : Binds X.K fd ps []) (tk : Takes X W)
    (ha : PA X (e :: es) (trEs z W r mes)) (hg : Gl X x := by rfl) (hdb : (x == ("__debug__" : Str)) = false := by decide) (s1 : starEach (e :: es) X.env = (false, eval e X.env) :: starEach es X.env := by rfl) (s2 : (backTo pos (starEach es X.env)).any (·.1) = false := by rfl) :
    PE X (.Call (.Name x p) (e :: es) [] pos) (trE z W r (.call fi mes)) := PE.imp (pe_callG (E := WE W) G room g hm hk hb (fun σ => passAt tk σ) ha hg hdb s1 s2) fun σ H K ⟨F, O, env, rel, w⟩ => by
  rw [denE_call] at w
  refine ⟨F, O, env, rel, wX.bind0 w fun qs env1 F1 H1 O1 _ s1 r1 w1 => ?_⟩
  intro vs t hq ft
  have := call_in s1 r1 hq ft w1
  rwa [List.append_nil] at this
theorem PK.imp {kws : List Keyword} {t t' : TA} (h : PK X kws t) (k : ∀ σ H K, t' σ H K → t σ H K) : PK X kws t' := ⟨fun pos pins s σ H Q I q => h.run pos pins s σ H Q I (k σ H Q q)⟩
theorem kons_in {me : E} {mes : Es} {σ : L2.St} {H : Hp} {K : List V → Hp → Prop} (h : trKs z W r (.cons me mes) σ H K) : tCons (trE z W r me) (trKs z W r mes) σ H K := by
  obtain ⟨F, O, env, rel, w⟩ := h
  rw [denKs] at w
  refine ⟨F, O, env, rel, wX.bind0 w fun q env1 F1 H1 O1 _ s1 r1 w1 => ?_⟩
  intro v t hq ft
  dsimp only at w1
  cases k : q.keep with
  | none => rw [k] at w1; exact w1.elim
  | some d =>
    rw [k] at w1
    obtain ⟨F2, rp, l1, l2, r2, kk⟩ := kept r1 hq ft k
    have w2 : wX z W ((denKs r mes env1).bind fun x => .ok (d :: x.1, x.2)) F2 H1 O1 σ fun ds F' H' O' => ∀ vs, Reps F' ds vs → K vs H' := wX.shift (kept_step s1 l1 kk) w1
    refine ⟨F2, O1, env1, r2, wX.bind w2 fun ds env2 F3 H3 O3 _ s3 r3 w3 => ?_⟩
    intro vs rs
    exact w3 F3 H3 O3 (Step.refl _ _ _) r3 (v :: vs) (Reps.cons (rp.mono s3.grow) rs)
theorem jn_nil : PK X [] (trKs z W r .nil) := PK.imp pk_nil fun σ H K ⟨F, O, env, rel, w⟩ => by
  rw [denKs] at w
  exact w F H O (Step.refl _ _ _) rel [] Reps.nil
theorem jn_cons {e : Expr} {kws : List Keyword} {nm : Option Str} {kp : Pos} {me : E} {mes : Es} (ha : PE X e (trE z W r me)) (hr : PK X kws (trKs z W r mes)) : PK X (⟨nm, e, kp⟩ :: kws) (trKs z W r (.cons me mes)) := PK.imp (pk_cons ha hr) fun σ H K h => kons_in h
theorem reps_order {F : Hp} {ds : List D} {vs : List V} (h : Reps F ds vs) (ks : List Nat) : Reps F (order .non ks ds) (order .non ks vs) := by
  unfold order
  rw [h.len]
  have each : ∀ p, Rep F ((ds[ks.idxOf p]?).getD .non) ((vs[ks.idxOf p]?).getD .non) := fun p => by
    cases e : ds[ks.idxOf p]? with
    | none =>
      have h2 : vs[ks.idxOf p]? = none := by
        have h1 := List.getElem?_eq_none_iff.mp e
        rw [← h.len] at h1
        exact List.getElem?_eq_none_iff.mpr h1
      rw [h2]
      simp [Rep]
    | some d =>
      obtain ⟨v, e2, rp⟩ := h.get e
      rw [e2]
      exact rp
  have all : ∀ l : List Nat, Reps F (l.map fun p => (ds[ks.idxOf p]?).getD .non) (l.map fun p => (vs[ks.idxOf p]?).getD .non) := fun l => by
    induction l with
    | nil => exact Reps.nil
    | cons p l ih => exact Reps.cons (each p) ih
  exact all _
theorem asQ_rqs {F H : Hp} {σ : L2.St} : ∀ {ds : List D} {vs : List V}, Reps F ds vs → RQs z F H σ (ds.map asQ) vs []
  | [], vs, h => ⟨h.nil_inv, rfl⟩
  | d :: ds, vs, h => by
    obtain ⟨v, r', e, q, t⟩ := h.cons_inv
    exact ⟨v, r', [], [], e, rfl, ⟨rfl, q⟩, asQ_rqs t⟩
theorem je_callK {kws : List Keyword} {ns : List Str} {ks : List Nat} {mes : Es} (G : FnG X.prog X.w X.K X.mg X.base k f fd ps (spM z.cl (r fi))) (room : Room k X.A) (g : X.A.guards = some []) (hm : X.mg x = some (.ref f)) (hk : PySem.W.keepIn X.K (.ref f) = true) (hb : Named X.K fd ps ns ks) (tk : Takes X W)
    (hkw : PK X kws (trKs z W r mes)) (hg : Gl X x := by rfl) (s1 : (backToKw pos (keywordEach kws X.env)).all (·.1.isSome) = true := by rfl) (s2 : (backToKw pos (keywordEach kws X.env)).filterMap (·.1) = ns := by rfl)
    (hdb : (x == ("__debug__" : Str)) = false := by decide) (s3 : ((backTo pos (starEach [] X.env)).any (·.1) || (backToKw pos (keywordEach kws X.env)).any (·.1.isNone)) = false := by rfl) :
    PE X (.Call (.Name x p) [] kws pos) (trE z W r (.callK fi ks mes)) := PE.imp (pe_callN (E := WE W) G room g hm hk hb (fun σ => passAt tk σ) hkw hg s1 s2 hdb s3) fun σ H K ⟨F, O, env, rel, w⟩ => by
  rw [denE_callK] at w
  refine ⟨F, O, env, rel, wX.bind0 w fun ds env1 F1 H1 O1 _ s1 r1 w1 => ?_⟩
  intro vs rs
  have := call_in s1 r1 (asQ_rqs (reps_order rs ks)) (Fresh.nil _ _) w1
  rwa [List.append_nil] at this
end

/-! ### a def by its meaning -/
theorem nones_rel {F H : Hp} {xa xd : Addr} : ∀ m : Nat, RSs F H xa xd (List.replicate m none) (List.replicate m none) []
  | 0 => ⟨rfl, rfl⟩
  | m + 1 => ⟨none, List.replicate m none, [], [], rfl, rfl, rfl, nones_rel m⟩
theorem args_rel {F H : Hp} (m : Nat) : ∀ {ms : List M} {vs : List V} {Os : List (List Addr)}, RAs F H ms vs Os → RSs F H 0 0 (ms.map some ++ List.replicate m none) (vs.map some ++ List.replicate m none) Os.flatten
  | [], vs, Os, h => by rw [h.1, h.2]; exact nones_rel m
  | x :: ms, vs, Os, h => by
    obtain ⟨v, r, x, y, e1, e2, g1, g2⟩ := h
    subst e1 e2
    exact ⟨some v, _, x, _, rfl, by rw [List.flatten_cons], ⟨v, rfl, g1⟩, args_rel m g2⟩
theorem lent_back {F H F' H' : Hp} {A : Nat → List Addr} (grow : Le F F') (one : ∀ i j a, a ∈ A i → a ∈ A j → i = j) (nd : ∀ i, (A i).Nodup) : ∀ {ms ms' : List M} {vs : List V} {Os : List (List Addr)} {e : Env} (n : Nat), lentBack ms e = some ms' → RAs F H ms vs Os →
    (∀ i m v, e[i]? = some (some m) → notLent m = false → vs[i]? = some v → RM F' H' 0 0 m v (A (n + i))) →
    ∃ Os', RAs F' H' ms' vs Os' ∧ (∀ a ∈ Os'.flatten, ∃ i, a ∈ A (n + i)) ∧ Os'.flatten.Nodup ∧ ∀ a ∈ Os.flatten, a ∈ Os'.flatten
  | [], ms', vs, Os, e, n, h, r, _ => by
    simp only [lentBack] at h
    cases h
    rw [r.1, r.2]
    exact ⟨[], ⟨rfl, rfl⟩, fun _ h => (nomatch h), List.nodup_nil, fun _ h => h⟩
  | .val d :: ms, ms', vs, Os, [], n, h, r, _ => by simp [lentBack] at h
  | .val d :: ms, ms', vs, Os, o :: e, n, h, r, k => by
    simp only [lentBack] at h
    obtain ⟨ms2, h1, h2⟩ := Option.map_eq_some_iff.mp h
    subst h2
    obtain ⟨v, vr, x, y, e1, e2, g1, g2⟩ := r
    subst e1 e2
    obtain ⟨Os', a1, a2, a3, a4⟩ := lent_back grow one nd (n + 1) h1 g2 (fun i m v e1 e2 e3 => by
      have := k (i + 1) m v (by simpa using e1) e2 (by simpa using e3)
      rwa [show n + (i + 1) = n + 1 + i by omega] at this)
    refine ⟨[] :: Os', ⟨v, vr, [], Os', rfl, rfl, ⟨rfl, g1.2.mono grow⟩, a1⟩, fun a ha => ?_, by simpa using a3, fun a ha => ?_⟩
    · obtain ⟨i, hi⟩ := a2 a (by simpa using ha)
      exact ⟨i + 1, by rwa [show n + (i + 1) = n + 1 + i by omega]⟩
    · rw [g1.1] at ha
      simpa using a4 a (by simpa using ha)
  | .own false xs :: ms, ms', vs, Os, e, n, h, r, _ => by simp [lentBack] at h
  | .own true xs :: ms, ms', vs, Os, [], n, h, r, _ => by simp [lentBack] at h
  | .own true xs :: ms, ms', vs, Os, o :: e, n, h, r, k => by
    cases o with
    | none => simp [lentBack] at h
    | some m2 =>
      cases m2 with
      | val d => simp [lentBack] at h
      | ex c d => simp [lentBack] at h
      | deal io b s => simp [lentBack] at h
      | own io ys =>
        cases io with
        | false => simp [lentBack] at h
        | true =>
          simp only [lentBack] at h
          obtain ⟨ms2, h1, h2⟩ := Option.map_eq_some_iff.mp h
          subst h2
          obtain ⟨v, vr, x, y, e1, e2, g1, g2⟩ := r
          subst e1 e2
          have rm := k 0 (.own true ys) v rfl rfl rfl
          obtain ⟨Os', a1, a2, a3, a4⟩ := lent_back grow one nd (n + 1) h1 g2 (fun i m v e1 e2 e3 => by
            have := k (i + 1) m v (by simpa using e1) e2 (by simpa using e3)
            rwa [show n + (i + 1) = n + 1 + i by omega] at this)
          refine ⟨A n :: Os', ⟨v, vr, A n, Os', rfl, rfl, rm, a1⟩, fun a ha => ?_, ?_, fun a ha => ?_⟩
          · rw [List.flatten_cons] at ha
            rcases List.mem_append.mp ha with u | u
            · exact ⟨0, u⟩
            · obtain ⟨i, hi⟩ := a2 a u
              exact ⟨i + 1, by rwa [show n + (i + 1) = n + 1 + i by omega]⟩
          · rw [List.flatten_cons]
            refine List.nodup_append.mpr ⟨nd n, a3, fun a ha b hb e => ?_⟩
            subst e
            obtain ⟨i, hi⟩ := a2 a hb
            have := one n (n + 1 + i) a ha hi
            omega
          · rw [List.flatten_cons] at ha ⊢
            rcases List.mem_append.mp ha with u | u
            · obtain ⟨b, ws, e3, e4, _⟩ := g1
              obtain ⟨b', ws', e5, e6, _⟩ := rm
              rw [e3] at e5
              cases e5
              rw [e4] at u
              exact List.mem_append_left _ (by rw [Nat.add_zero] at e6; rw [e6]; exact u)
            · exact List.mem_append_right _ (a4 a u)
  | .deal false b s :: ms, ms', vs, Os, e, n, h, r, _ => by simp [lentBack] at h
  | .deal true b s :: ms, ms', vs, Os, [], n, h, r, _ => by simp [lentBack] at h
  | .deal true b s :: ms, ms', vs, Os, o :: e, n, h, r, k => by
    cases o with
    | none => simp [lentBack] at h
    | some m2 =>
      cases m2 with
      | val d => simp [lentBack] at h
      | ex c d => simp [lentBack] at h
      | own io ys => simp [lentBack] at h
      | deal io b2 s2 =>
        cases io with
        | false => simp [lentBack] at h
        | true =>
          simp only [lentBack] at h
          by_cases cb : b.1 = b2.1
          · rw [if_pos cb] at h
            obtain ⟨ms2, h1, h2⟩ := Option.map_eq_some_iff.mp h
            subst h2
            obtain ⟨v, vr, x, y, e1, e2, g1, g2⟩ := r
            subst e1 e2
            have rm := k 0 (.deal true b2 s2) v rfl rfl rfl
            obtain ⟨Os', a1, a2, a3, a4⟩ := lent_back grow one nd (n + 1) h1 g2 (fun i m v e1 e2 e3 => by
              have := k (i + 1) m v (by simpa using e1) e2 (by simpa using e3)
              rwa [show n + (i + 1) = n + 1 + i by omega] at this)
            refine ⟨A n :: Os', ⟨v, vr, A n, Os', rfl, rfl, rm, a1⟩, fun a ha => ?_, ?_, fun a ha => ?_⟩
            · rw [List.flatten_cons] at ha
              rcases List.mem_append.mp ha with u | u
              · exact ⟨0, u⟩
              · obtain ⟨i, hi⟩ := a2 a u
                exact ⟨i + 1, by rwa [show n + (i + 1) = n + 1 + i by omega]⟩
            · rw [List.flatten_cons]
              refine List.nodup_append.mpr ⟨nd n, a3, fun a ha b hb e => ?_⟩
              subst e
              obtain ⟨i, hi⟩ := a2 a hb
              have := one n (n + 1 + i) a ha hi
              omega
            · rw [List.flatten_cons] at ha ⊢
              rcases List.mem_append.mp ha with u | u
              · obtain ⟨p, c, e3, e4, _, _, _, _, e7⟩ := g1
                obtain ⟨p', c', e5, e6, _, _, _, _, e8⟩ := rm
                rw [e3] at e5
                cases e5
                have : c = c' := by rw [e7, e8, cb]
                subst this
                rw [e4] at u
                exact List.mem_append_left _ (by rw [Nat.add_zero] at e6; rw [e6]; exact u)
              · exact List.mem_append_right _ (a4 a u)
          · rw [if_neg cb] at h; cases h
  | .ex c d :: ms, ms', vs, Os, e, n, h, r, _ => by simp [lentBack] at h
section
variable {P : Program} {w : World} {K : PySem.W.Frag} {mg : Str → Option Value} {base : Heap} {k : Nat} {f : Addr} {fd : FuncData} {N ps : List Str} {cl : Nat → Addr} {r : Fs}
theorem fn_ok {x qual : Str} {st : Stmt} {np n : Nat} {b : Ss} (F : FunX K x qual st f fd) (S : FnScope N ps (defScope st)) (hN : N.length = n := by rfl) (hp : ps.length = np := by rfl)
    (body : ∀ (cd : Value) (A : Around) (outer : List PySem.Env) (s : Shared) (H : Hp) (E : XK), Room k (A.deeper (envOfC qual (defScope st) s.heap.objs.size f cd)) → A.guards = some [] →
      PSs (cxOf (L2.CX P w) P w K mg base N qual (defScope st) f cd A outer s H E) (defBody st) (trSs ⟨0, 0, cl⟩ (fun cls d _ H => E cls d H) r b)) : FnG P w K mg base (k + 1) f fd ps (spM cl (denF r np n b)) := by
  have np_of : ∀ {vs H Q E}, spM cl (denF r np n b) vs H Q E → vs.length = np := fun {vs H Q E} h => by
    obtain ⟨F0, ms, Os, le, ras, nd, lo, w0⟩ := h
    rw [ras.len]
    unfold denF at w0
    by_cases c : ms.all lentOk = true ∧ ms.length = np
    · exact c.2
    · rw [if_neg c] at w0; exact w0.elim
  refine fnG_mk F S (fun vs H Q E h => by rw [np_of h, hp]) fun cd A outer s H vs Q E room g h => ⟨_, body cd A outer s H E room g, ?_⟩
  have hnp := np_of h
  obtain ⟨F0, ms, Os, le, ras, nd, lo, w0⟩ := h
  unfold denF at w0
  have hm : ms.length = np := by rw [← ras.len]; exact hnp
  rw [if_pos ⟨lo, hm⟩] at w0
  have rel : (⟨0, 0, cl⟩ : Cz).Rel F0 H (ms.map some ++ List.replicate (n - ms.length) none) (start N vs) Os.flatten := by
    refine ⟨le, ?_, nd⟩
    unfold L2.start
    rw [hN, ras.len]
    exact args_rel _ ras
  refine ⟨F0, Os.flatten, _, rel, ?_⟩
  -- at the end: what was lent comes back
  have fin : ∀ {e : Env} {ms' : List M} {σ' : L2.St} {F' H' : Hp} {O' : List Addr}, lentBack ms e = some ms' → Step F0 H Os.flatten F' H' O' → (⟨0, 0, cl⟩ : Cz).Rel F' H' e σ' O' → Stay (ms.map some ++ List.replicate (n - ms.length) none) e (start N vs) σ' →
      ∃ Os', RAs F' H' ms' vs Os' ∧ Os'.flatten.Nodup ∧ (∀ a ∈ Os'.flatten, a ∈ O') ∧ ∀ a ∈ Os.flatten, a ∈ Os'.flatten := fun {e ms' σ' F' H' O'} hb s r1 st => by
    obtain ⟨A, own, hA⟩ := Rel.own r1
    obtain ⟨Os', a1, a2, a3, a4⟩ := lent_back s.grow own.one own.nd 0 hb ras (fun i m v e1 e2 e3 => by
      have hs : slot i e = some m := slot_of e1
      obtain ⟨_, q⟩ := st i (lent_of hs e2)
      obtain ⟨v', k1, k2⟩ := own.at_ i m hs
      rw [q] at k1
      have k3 : (start N vs)[i]? = some (some v) := by
        unfold L2.start
        have hi : i < vs.length := (List.getElem?_eq_some_iff.mp e3).1
        rw [List.getElem?_append_left (by simpa using hi), List.getElem?_map, e3]
        rfl
      rw [k3] at k1
      cases k1
      rw [Nat.zero_add]
      exact k2)
    exact ⟨Os', a1, a3, fun a ha => (hA a).mpr (by obtain ⟨i, hi⟩ := a2 a ha; exact ⟨0 + i, hi⟩), a4⟩
  cases e : denSs r b (ms.map some ++ List.replicate (n - ms.length) none) with
  | stuck => rw [e] at w0; exact w0
  | bk e1 => rw [e] at w0; exact w0.elim
  | ct e1 => rw [e] at w0; exact w0.elim
  | nx e1 =>
    rw [e] at w0
    dsimp only at w0
    cases hb : lentBack ms e1 with
    | none => rw [hb] at w0; exact w0.elim
    | some ms' =>
      rw [hb] at w0
      intro σ' F' H' O' s1 r1 st
      obtain ⟨Os', a1, a2, a3, a4⟩ := fin hb s1 r1 st
      exact w0.2 .non F' H' Os' [] (s1.less a3) r1.le a1 a2 ⟨rfl, by simp [Rep]⟩ (Fresh.nil _ _)
  | rt m e1 =>
    rw [e] at w0
    dsimp only at w0
    cases hb : lentBack ms e1 with
    | none => rw [hb] at w0; exact w0.elim
    | some ms' =>
      rw [hb] at w0
      refine ⟨w0.1, fun v σ' F' H' O' t s1 r1 st rm ndt ft => ?_⟩
      obtain ⟨Os', a1, a2, a3, a4⟩ := fin hb s1 r1 st
      refine w0.2 v F' H' Os' t (s1.less a3) r1.le a1 a2 rm ⟨ndt, fun a ha => ⟨fun hm => (ft a ha).1 (a3 a hm), ?_⟩⟩
      rcases (ft a ha).2 with y | y
      · exact absurd (a3 a (a4 a y)) (ft a ha).1
      · exact y
  | exc c d e1 =>
    rw [e] at w0
    exact fun σ' F' H' O' dx v s1 r1 _ rp hd => w0 F' H' O' dx v s1 r1.le rp hd
end
end Rx

/-! RxEnd -/
/-! RxEnd: the law's own call: nothing but the script is known. -/
set_option linter.all false
set_option Elab.async false
set_option maxRecDepth 100000
set_option maxHeartbeats 4000000
namespace Rx
open PySem PySem.Spec PyProof.Rows L2
section
variable {P : Program} {w : World} {K : PySem.W.Frag} {mg mb : Str → Option Value} {k : Nat} {fa a : Addr} {fd : FuncData} {x : Str} {sp : Sp} {t : Shared} {vs : List Value} {ns : List Int}
/-- what is wanted of the law's call -/
def LawEnd (t : Shared) (res : Result) (t' : Shared) : Prop := res = .ok (.ret (.bool true)) ∧ OldK t.heap t'.heap ∧ t'.os = t.os ∧ AllBare t'.gens
theorem law_from (H : Hp) (kin : K.In t.heap) (nsM : t.heap.Ns mainGlobals mg) (nsB : t.heap.Ns builtinsNs mb) (boot : ∀ y : Str, y ≠ "__name__" → mb y = bootBuiltins y) (nolim : t.heap.NoLimit) (gens : t.gens = #[]) (scr : t.heap.get? a = some { cls := .type "list", data := .seq vs.toArray })
    (room : Room k callerA) (F : ∀ base : Heap, K.In base → base.Ns mainGlobals mg → FnG P w K mg base k fa fd [x] sp) (bind_ : ∀ (s : Shared) (u : Value), BindsTo s fd ⟨[u], []⟩ [(x, u)])
    (only : Only H) (q : sp [.ref a] H (fun v _ => v = .bl true) fun _ _ _ => False) (hok : HOk P w H t.heap) (one : ∀ b, H b ≠ none → b = a) (free : H a ≠ none → K.lookup a = none) :
    codeAny (model P w) callerA (.call (.ref fa) ⟨[.ref a], []⟩) (LawEnd t) t := by
  have hid : ∀ {b o}, t.heap.get? b = some o → H b = none → (hidT t.heap H).get? b = some o := fun e n => hidT_get e n
  have plain : ∀ {b : Addr} {o : Obj} {es ep}, t.heap.get? b = some o → o.data = .dict es ep → H b = none := fun {b o es ep} e d => by
    cases h : H b with
    | none => rfl
    | some u =>
      rw [one b (by rw [h]; simp), scr] at e
      cases e
      cases (show Data.seq vs.toArray _ = Data.dict es ep from d)
  have ns : ∀ {b : Addr} {m : Str → Option Value}, t.heap.Ns b m → (hidT t.heap H).Ns b m := fun ⟨o, es, ep, e, d, r⟩ => ⟨o, es, ep, hid e (plain e d), d, r⟩
  have kin2 : K.In (hidT t.heap H) := fun b o e => by
    refine hid (kin b o e) ?_
    cases h : H b with
    | none => rfl
    | some u =>
      have eb := one b (by rw [h]; simp)
      rw [eb] at h e
      rw [free (by rw [h]; simp)] at e
      cases e
  obtain ⟨mc, l1, l2⟩ := nolim
  have mod : Mod K mg (hidT t.heap H) := ⟨kin2, ns nsM, ⟨mb, ns nsB, boot⟩, ⟨mc, ns l1, l2⟩⟩
  have e0 : Env0 P w K mg (hidT t.heap H) callerA [] t H := ⟨rfl, mod, fun b o e => of_hidT e, Nat.le_of_eq (hidT_size _ _), trivial, fun b hb => (by cases hb), hok, .of_eq gens⟩
  refine codeAny_mono ((F _ kin2 (ns nsM)).run callerA [] t H ⟨[.ref a], []⟩ [.ref a] [.ref a] _ _ room rfl e0 (bind_ t (.ref a)) (.cons rfl .nil) q) fun res t' h => ?_
  cases res with
  | error e =>
    obtain ⟨_, _, _, _, _, _, _, _, _, _, _, _, z⟩ := h
    exact z.elim
  | ok fl =>
    cases fl with
    | next => exact h.elim
    | brk => exact h.elim
    | cont => exact h.elim
    | ret u =>
      obtain ⟨v, H', os, bare, un, hok2, rv, ev⟩ := h
      have ev : v = .bl true := ev
      subst ev
      obtain rfl : u = Value.bool true := rv
      refine ⟨rfl, OldK.of_keep fun b o e => ?_, os, bare⟩
      cases h : H b with
      | none => exact un.keep b o e h (fun z => by cases z) (by simp)
      | some u =>
        rcases only b with y | ⟨ob, xs, y⟩
        · rw [h] at y; cases y
        · have there := (hok2 b _ (un.frzs b ob _ y)).1
          have same := (hok b _ y).1
          rw [e] at same
          cases same
          exact there
theorem law_done (kin : K.In t.heap) (nsM : t.heap.Ns mainGlobals mg) (nsB : t.heap.Ns builtinsNs mb) (boot : ∀ y : Str, y ≠ "__name__" → mb y = bootBuiltins y) (nolim : t.heap.NoLimit) (gens : t.gens = #[]) (scr : t.heap.get? a = some { cls := .type "list", data := .seq vs.toArray })
    (hi : IntsAre vs ns) (few : ns.length ≤ sizeLine) (room : Room k callerA) (F : ∀ base : Heap, K.In base → base.Ns mainGlobals mg → FnG P w K mg base k fa fd [x] sp) (bind_ : ∀ (s : Shared) (u : Value), BindsTo s fd ⟨[u], []⟩ [(x, u)])
    (hsp : ∀ H : Hp, Only H → SqL K H a (ns.map V.int) → sp [.ref a] H (fun v _ => v = .bl true) fun _ _ _ => False) : codeAny (model P w) callerA (.call (.ref fa) ⟨[.ref a], []⟩) (LawEnd t) t := by
  have vals := vals_ints hi
  have len := hi.length
  cases h : K.lookup a with
  | some o =>
    have e := kin a o h
    rw [scr] at e
    cases e
    refine law_from (fun _ => none) kin nsM nsB boot nolim gens scr room F bind_ (fun _ => .inl rfl) (hsp _ (fun _ => .inl rfl) ?_) (fun b u z => by cases z) (fun b z => (z rfl).elim) fun z => (z rfl).elim
    exact .inr ⟨_, vs.toArray, _, h, rfl, rfl, rfl, by rw [List.size_toArray, len]; exact few, by simpa using vals⟩
  | none =>
    have at_ : ∀ b, (if b = a then some (HO.frz { cls := .type "list", data := .seq vs.toArray } (.lst (ns.map V.int))) else none) = none ∨ b = a := fun b => by
      by_cases e : b = a
      · exact .inr e
      · exact .inl (if_neg e)
    have only : Only fun b => if b = a then some (HO.frz { cls := .type "list", data := .seq vs.toArray } (.lst (ns.map V.int))) else none := fun b => by
      by_cases e : b = a
      · exact .inr ⟨_, _, if_pos e⟩
      · exact .inl (if_neg e)
    refine law_from _ kin nsM nsB boot nolim gens scr room F bind_ only (hsp _ only (.inl (.inr ⟨{ cls := .type "list", data := .seq vs.toArray }, if_pos rfl⟩))) (fun b u z => ?_) (fun b z => (at_ b).resolve_left z) fun _ => h
    by_cases e : b = a
    · have z2 := (if_pos e).symm.trans z
      cases z2
      rw [e]
      exact ⟨scr, by rw [List.length_map]; exact few, vs, _, vals, scr⟩
    · have z2 := (if_neg e).symm.trans z
      cases z2
theorem walk_ofG {l : PySem.W.OpenLaw} {n : Nat} {q : Program} {loose : List Str} {XP : (Str → Option Value) → Heap → Prop} {YP : World → Heap → Prop} {d : DefRec} {Kf : Params → PySem.W.Frag} {spw : World → Sp} (hn : l.most = some n) (hn2 : n ≤ sizeLine) (hdf : d.params.defaults = []) (room : Room k callerA)
    (hY : ∀ (w : World) (h : Heap), YP w h → (Kf w.params).In h)
    (F : ∀ (w : World) (mg : Str → Option Value) (fa : Addr) (h : Heap), (Kf w.params).In h → h.Ns mainGlobals mg → mg d.name = some (.ref fa) →
      ∃ fd : FuncData, (∀ (s : Shared) (u : Value), BindsTo s fd ⟨[u], []⟩ [(x, u)]) ∧ ∀ base : Heap, (Kf w.params).In base → base.Ns mainGlobals mg → FnG l.prog w (Kf w.params) mg base k fa fd [x] (spw w))
    (hsp : ∀ (w : World) (H : Hp) (a : Addr) (ns : List Int), ns.length ≤ n → (∀ z ∈ ns, Builtin.Int.intBits z ≤ 1048576) → Only H → SqL (Kf w.params) H a (ns.map V.int) → spw w [.ref a] H (fun v _ => v = .bl true) fun _ _ _ => False) :
    PySem.W.WalkO q loose XP YP l.row.toRowW d [] (fun f vs => PySem.call f vs) := by
  refine Att.attach_callB hn hdf fun w s0 s1 mg mb fa o pm cd doc a vs ns G Y ho hd hcd hmg hobj hints hlen hbits hg => ?_
  have kin := hY w _ Y
  obtain ⟨fd, hb, hF⟩ := F w mg fa _ kin G.T.g hmg
  exact law_done kin G.T.g G.T.b G.T.builtins G.T.nolimit hg hobj hints (Nat.le_trans hlen hn2) room hF hb fun H hO hS => hsp w H a ns hlen hbits hO hS
end
end Rx

/-! RxMore -/
/-! RxMore: repr(a) == repr(b); a < b < c; sorted(set(xs)); enumerate. -/
set_option linter.all false
set_option Elab.async false
set_option maxRecDepth 100000
set_option maxHeartbeats 4000000
namespace Rx
open PySem L2

/-! ### repr -/
theorem shown_int {i : Int} (h : i.natAbs < 10 ^ 570) : (PyData.shown (.int i)).length ≤ 571 ∧ i.natAbs.log2 < 1920 := by
  constructor
  · have e : (PyData.shown (.int i)).length = (toString i).length := by
      simp only [PyData.shown]
      exact ofString_length _
    rw [e]
    exact int_text_length_le10 (by decide) h
  · by_cases h0 : i.natAbs = 0
    · rw [h0]; decide
    · exact (Nat.log2_lt h0).mpr (Nat.lt_trans h (by decide +kernel))
mutual
theorem py_bulk : ∀ d : D, d.py.bulk ≤ d.bulk
  | .non => by simp [D.py, PyData.bulk, D.bulk]
  | .bl b => by simp [D.py, PyData.bulk, D.bulk]
  | .int i => by simp [D.py, PyData.bulk, D.bulk]
  | .str x => by simp [D.py, PyData.bulk, D.bulk]
  | .tup xs => by simp only [D.py, PyData.bulk, D.bulk]; exact pys_bulk xs
  | .lst xs => by simp only [D.py, PyData.bulk, D.bulk]; exact pys_bulk xs
  | .ins c fs => by simp [D.py, PyData.bulk, PyData.bulkKv, D.bulk]
theorem pys_bulk : ∀ ds : List D, PyData.bulkAll (D.pys ds) ≤ D.bulks ds
  | [] => by simp [D.pys, PyData.bulkAll, D.bulks]
  | d :: ds => by
    have h1 := py_bulk d
    have h2 := pys_bulk ds
    simp only [D.pys, PyData.bulkAll, D.bulks]
    omega
end
mutual
theorem py_short : ∀ (n : Nat) (d : D), d.short = true → d.flat n = true → d.py.leavesShort 571 = true ∧ d.py.showable = true ∧ d.py.hasDict = false
  | n, .non, _, _ => by simp [D.py, PyData.leavesShort, PyData.showable, PyData.hasDict]
  | n, .bl b, _, _ => by simp [D.py, PyData.leavesShort, PyData.showable, PyData.hasDict]
  | n, .int i, h, _ => by
    simp only [D.short, decide_eq_true_eq] at h
    obtain ⟨h1, h2⟩ := shown_int h
    simp only [D.py, PyData.leavesShort, PyData.showable, PyData.hasDict, decide_eq_true_eq]
    exact ⟨h1, h2, trivial⟩
  | n, .str x, _, h => by
    simp only [D.flat, strSmall, Bool.and_eq_true, decide_eq_true_eq] at h
    refine ⟨?_, by simp [D.py, PyData.showable], by simp [D.py, PyData.hasDict]⟩
    simp only [D.py, PyData.leavesShort]
    refine List.all_eq_true.mpr fun c hc => decide_eq_true ?_
    have := Array.all_eq_true_iff_forall_mem.mp h.2 c (by simpa using hc)
    have := of_decide_eq_true this
    omega
  | 0, .tup xs, _, h => by simp [D.flat] at h
  | 0, .lst xs, _, h => by simp [D.flat] at h
  | n + 1, .tup xs, h, g => by
    simp only [D.short] at h
    simp only [D.flat] at g
    simpa only [D.py, PyData.leavesShort, PyData.showable, PyData.hasDict] using pys_short n xs h g
  | n + 1, .lst xs, h, g => by
    simp only [D.short] at h
    simp only [D.flat] at g
    simpa only [D.py, PyData.leavesShort, PyData.showable, PyData.hasDict] using pys_short n xs h g
  | n, .ins c fs, h, _ => by simp [D.short] at h
theorem pys_short : ∀ (n : Nat) (ds : List D), D.shorts ds = true → D.flats n ds = true → PyData.leavesShortAll 571 (D.pys ds) = true ∧ PyData.showableAll (D.pys ds) = true ∧ PyData.hasDictAll (D.pys ds) = false
  | n, [], _, _ => by simp [D.pys, PyData.leavesShortAll, PyData.showableAll, PyData.hasDictAll]
  | n, d :: ds, h, g => by
    simp only [D.shorts, Bool.and_eq_true] at h
    simp only [D.flats, Bool.and_eq_true] at g
    obtain ⟨a1, a2, a3⟩ := py_short n d h.1 g.1
    obtain ⟨b1, b2, b3⟩ := pys_short n ds h.2 g.2
    simp [D.pys, PyData.leavesShortAll, PyData.showableAll, PyData.hasDictAll, a1, a2, a3, b1, b2, b3]
end
/-- a value whose text repr tells -/
structure Told (d : PyData) : Prop where
  sh : d.showable = true
  nd : d.hasDict = false
  dp : d.depth ≤ 61
  len : d.shown.length ≤ sizeLine
theorem told_of {d : D} (h : d.showOk = true) : Told d.py := by
  simp only [D.showOk, Bool.and_eq_true, decide_eq_true_eq] at h
  obtain ⟨⟨h1, h2⟩, h3⟩ := h
  obtain ⟨a1, a2, a3⟩ := py_short 60 d h1 h3
  refine ⟨a2, a3, (flat_shape 60 d h3).2, ?_⟩
  have l := PyData.shown_le_bulk 571 (by decide) d.py a1
  have b := py_bulk d
  have : (571 + 2) * d.py.bulk ≤ 573 * 29000 := Nat.mul_le_mul_left 573 (Nat.le_trans b h2)
  rw [sizeLine_eq]
  omega
section
variable {X : Cx} {z : Cz} {W : WX} {r : Fs}
def rRepr (K : PySem.W.Frag) : List V → Hp → VK → Prop := fun xs H Q => ∃ x d, xs = [x] ∧ Dp K H x d ∧ Told d ∧ Q (.str d.shown) H
open PySem.Spec PyProof.Rows in
theorem call_repr {k : Nat} (room : Room k X.A) (g : X.A.guards = some []) : CallR X (.builtin "repr") (rRepr X.K) := by
  intro pins s σ H xs us Q I rv h
  obtain ⟨x, d, rfl, dp, T, q⟩ := h
  obtain ⟨u, rfl, ru⟩ := rv.one
  obtain ⟨as, rd⟩ := Dp.reads I d x u dp ru
  have un := room.un
  have D1 := T.dp
  have ref : ∀ {a : Addr}, u = .ref a → wpAny (model X.prog X.w) X.A (call (.builtin "repr") [u]) (EP X pins σ Q) X.xe s := fun e => by
    subst e
    exact repr_of_reads' rd T.sh (fun h => by rw [T.nd] at h; cases h) g (by omega) (fun _ _ e => e) (fun h' u tk hk => ⟨.str d.shown, H, I.kept (t' := tk) hk, ⟨u, rfl⟩, q⟩) T.len
  cases dp with
  | non =>
    cases ru
    exact P.repr_of_none ⟨.str _, H, I.tok _, ⟨_, rfl⟩, q⟩
  | bl b =>
    cases ru
    refine P.repr_of_bool ⟨.str _, H, I.tok _, ⟨_, rfl⟩, ?_⟩
    cases b <;> exact q
  | int i =>
    obtain ⟨t, rfl⟩ := ru
    have sh := T.sh
    simp only [PyData.showable, decide_eq_true_eq] at sh
    exact P.repr_of_int sh ⟨.str _, H, I.tok _, ⟨_, rfl⟩, q⟩
  | str y =>
    obtain ⟨t, rfl⟩ := ru
    exact P.repr_of_str ⟨.str _, H, I.tok _, ⟨_, rfl⟩, q⟩ (by simpa only [PyData.shown] using T.len)
  | lst h1 h2 => exact ref ru
  | tup h1 h2 => exact ref ru
variable {a b : Expr} {ma mb : E} {pos p1 p2 q1 q2 : Pos}
theorem eqR_in {Kf : PySem.W.Frag} {neg : Bool} {r2 : R2} {K2 : VK} (h2 : ∀ (x : Str) (H : Hp) (Q : VK), Q (.bl neg) H → r2 (.str x) (.str x) H Q) {σ : L2.St} {H : Hp} {K : VK} (hK : ∀ H, K (.bl neg) H → K2 (.bl neg) H) (h : trE z W r (.eqR neg ma mb) σ H K) :
    tOp r2 (fun σ H Q => trE z W r ma σ H fun v H1 => rRepr Kf [v] H1 Q) (fun σ H Q => trE z W r mb σ H fun v H1 => rRepr Kf [v] H1 Q) σ H K2 := by
  obtain ⟨F, O, env, rel, w⟩ := h
  rw [denE_eqR] at w
  refine ⟨F, O, env, rel, wX.bind0 w fun q env1 F1 H1 O1 _ s1 r1 w1 => ?_⟩
  intro v t hq ft
  dsimp only at w1
  cases k : q.keep with
  | none => rw [k] at w1; exact w1.elim
  | some d =>
    rw [k] at w1
    dsimp only at w1
    by_cases sh : d.showOk = true
    · rw [if_pos sh] at w1
      have T := told_of sh
      obtain ⟨F2, rp, l1, l2, r2', kk⟩ := kept r1 hq ft k
      refine ⟨v, d.py, rfl, rp.dp l2, T, F2, O1, env1, r2', wX.bind (wX.shift (kept_step s1 l1 kk) w1) fun q2 env2 F3 H3 O3 _ s3 r3 w3 => ?_⟩
      intro v2 t2 hq2 ft2
      dsimp only at w3
      cases k2 : q2.keep with
      | none => rw [k2] at w3; exact w3.elim
      | some e =>
        rw [k2] at w3
        dsimp only at w3
        by_cases sm : d.same e = true
        · rw [if_pos sm] at w3
          have ed := D.same_eq d e sm
          subst ed
          obtain ⟨F4, rp4, l3, l4, r4, kk4⟩ := kept r3 hq2 ft2 k2
          exact ⟨v2, d.py, rfl, rp4.dp l4, T, h2 _ _ _ (hK _ (w3 F3 H3 O3 (Step.refl _ _ _) r3 (.bl neg) [] ⟨rfl, pBl⟩ (Fresh.nil _ _)))⟩
        · rw [if_neg sm] at w3; exact w3.elim
    · rw [if_neg sh] at w1; exact w1.elim
/-- repr(e) -/
theorem pe_repr {e : Expr} {te : TE} {p pos : Pos} {k : Nat} (room : Room k X.A) (g : X.A.guards = some []) (hg : Gl X "repr") (hm : X.mg "repr" = none) (he : PE X e te) (hs : starEach [e] X.env = (false, eval e X.env) :: starEach [] X.env := by rfl) :
    PE X (.Call (.Name "repr" p) [e] [] pos) (fun σ H Q => te σ H fun v H1 => rRepr X.K [v] H1 Q) :=
  PE.imp (pe_callB (call_repr room g) hg hm PyProof.Rows.boot_repr (pa_cons he pa_nil hs) (by decide) (by decide) hs rfl) fun σ H K h => h
theorem eq_same (x : Str) (H : Hp) (Q : VK) (q : Q (.bl true) H) : rEq (.str x) (.str x) H Q := ⟨rfl, by rw [decide_eq_true rfl]; exact q⟩
theorem ne_same (x : Str) (H : Hp) (Q : VK) (q : Q (.bl false) H) : rNe (.str x) (.str x) H Q := ⟨rfl, by rw [decide_eq_true rfl]; exact q⟩
theorem je_eqR {k : Nat} (room : Room k X.A) (g : X.A.guards = some []) (hg : Gl X "repr") (hm : X.mg "repr" = none) (ha : PE X a (trE z W r ma)) (hb : PE X b (trE z W r mb)) (s1 : starEach [a] X.env = (false, eval a X.env) :: starEach [] X.env := by rfl) (s2 : starEach [b] X.env = (false, eval b X.env) :: starEach [] X.env := by rfl) :
    PE X (.Compare (.Call (.Name "repr" p1) [a] [] q1) [.Eq] [.Call (.Name "repr" p2) [b] [] q2] pos) (trE z W r (.eqR true ma mb)) := PE.imp (pe_cmpR op_eq (pe_repr room g hg hm ha s1) (pe_repr room g hg hm hb s2) rfl) fun σ H K h => eqR_in eq_same (fun _ q => q) h
theorem je_neR {k : Nat} (room : Room k X.A) (g : X.A.guards = some []) (hg : Gl X "repr") (hm : X.mg "repr" = none) (ha : PE X a (trE z W r ma)) (hb : PE X b (trE z W r mb)) (s1 : starEach [a] X.env = (false, eval a X.env) :: starEach [] X.env := by rfl) (s2 : starEach [b] X.env = (false, eval b X.env) :: starEach [] X.env := by rfl) :
    PE X (.Compare (.Call (.Name "repr" p1) [a] [] q1) [.NotEq] [.Call (.Name "repr" p2) [b] [] q2] pos) (trE z W r (.eqR false ma mb)) := PE.imp (pe_cmpR op_ne (pe_repr room g hg hm ha s1) (pe_repr room g hg hm hb s2) rfl) fun σ H K h => eqR_in ne_same (fun _ q => q) h
theorem jt_eqR {k : Nat} (room : Room k X.A) (g : X.A.guards = some []) (hg : Gl X "repr") (hm : X.mg "repr" = none) (ha : PE X a (trE z W r ma)) (hb : PE X b (trE z W r mb)) (s1 : starEach [a] X.env = (false, eval a X.env) :: starEach [] X.env := by rfl) (s2 : starEach [b] X.env = (false, eval b X.env) :: starEach [] X.env := by rfl) :
    PT X (.Compare (.Call (.Name "repr" p1) [a] [] q1) [.Eq] [.Call (.Name "repr" p2) [b] [] q2] pos) (trT z W r (.eqR true ma mb)) := PT.imp (pt_cmpR op_eq (pe_repr room g hg hm ha s1) (pe_repr room g hg hm hb s2) rfl) fun σ H K h =>
    eqR_in eq_same (fun H1 ⟨F, d, k, _, rd, tv, q⟩ => ⟨true, rfl, by rw [truth_bl rd tv rfl]; exact q⟩) (testE (denT_plain r rfl) h)
theorem jt_neR {k : Nat} (room : Room k X.A) (g : X.A.guards = some []) (hg : Gl X "repr") (hm : X.mg "repr" = none) (ha : PE X a (trE z W r ma)) (hb : PE X b (trE z W r mb)) (s1 : starEach [a] X.env = (false, eval a X.env) :: starEach [] X.env := by rfl) (s2 : starEach [b] X.env = (false, eval b X.env) :: starEach [] X.env := by rfl) :
    PT X (.Compare (.Call (.Name "repr" p1) [a] [] q1) [.NotEq] [.Call (.Name "repr" p2) [b] [] q2] pos) (trT z W r (.eqR false ma mb)) := PT.imp (pt_cmpR op_ne (pe_repr room g hg hm ha s1) (pe_repr room g hg hm hb s2) rfl) fun σ H K h =>
    eqR_in ne_same (fun H1 ⟨F, d, k, _, rd, tv, q⟩ => ⟨false, rfl, by rw [truth_bl rd tv rfl]; exact q⟩) (testE (denT_plain r rfl) h)
end
end Rx

/-! RxSet -/
/-! RxSet: sorted(set(xs)), xs a list of ints. -/
set_option linter.all false
set_option Elab.async false
set_option maxRecDepth 100000
set_option maxHeartbeats 4000000
namespace Rx
open PySem PySem.Spec PyProof.Rows L2
abbrev emptySet (w : World) : Obj where
  cls := .type "set"
  dict := none
  data := .set #[] 0 (.fresh 0 0 (!w.params.followText "set-order"))
section
variable {P : Program} {w : World} {A : Around} {E : Value → Shared → Prop} {t : Shared} {l : Addr} {xs : Array Value} {ns : List Int}
/-- a set of the list's ints, at the heap's old end -/
def SetMade (w : World) (t : Shared) (ns : List Int) (t' : Shared) : Prop := ∃ g tk c, t' = { t with heap := g, toks := tk } ∧ SetR w g t.heap.objs.size (fun j => decide (j ∈ ns)) c ∧ c ≤ ns.length ∧ ∀ b o, t.heap.get? b = some o → g.get? b = some o
set_option maxHeartbeats 6400000 in
theorem set_list_made (hand : A.handled = none) (lst : t.heap.IsList l xs) (hns : IntsAre xs.toList ns) (few : ns.length + 1 < scanBound) {Q : Value → Shared → Prop} (k : ∀ t', SetMade w t ns t' → Q (.ref t.heap.objs.size) t') :
    wpAny (model P w) A (call (.type "set") [.ref l]) Q E t := by
  have many : xs.size = ns.length := by
    have q := hns.length
    rwa [Array.length_toList] at q
  obtain ⟨c0, tl, mro⟩ := F.called_set.mro
  have m1 := F.called_set.made
  have m2 := F.called_set.sub
  refine wpAny_call (codeAny_of_tree ?_)
  show wpAny _ _ (callAny (.type "set") _) _ _ _
  refine wpAny_pure ⟨Code.quiet_builtin _ (by decide +kernel), codeAny_builtin F.entry_type_call ?_⟩
  rw [Around.under_plain (weight_type_call_type "set" [.ref l] []) rfl]
  have m3 := F.called_set.notType
  have m4 := F.called_set.canCreate
  have m5 := F.typeCall_set_1 (.ref l)
  repeat (any_goals (first | assumption | wp_step))
  refine codeAny_mono (code_set_led1 (.ref l) (E := E) (Q₁ := fun v t1 => v = .ref t.heap.objs.size ∧ t1 = { t with heap := t.heap.push (emptySet w) }) ⟨rfl, rfl⟩) fun res t1 h1 => ?_
  cases res with
  | error e => exact h1
  | ok fl =>
    cases fl with
    | next => exact h1.elim
    | brk => exact h1.elim
    | cont => exact h1.elim
    | ret v =>
      obtain ⟨rfl, rfl⟩ := h1
      have here : (t.heap.push (emptySet w)).get? t.heap.objs.size = some (emptySet w) := Heap.get?_push_size _ rfl
      have kind : Shared.TypeIs { t with heap := t.heap.push (emptySet w) } (.ref t.heap.objs.size) "set" := ⟨_, here, rfl⟩
      have i1 := F.called_set.init.lookup
      have i2 := F.called_set.init.bind (.ref t.heap.objs.size)
      repeat (any_goals (first | assumption | wp_step))
      refine codeAny_mono (codeAny_call_builtin (R := wants (fun v t2 => v = .none ∧ SetMade w t ns t2) E) F.called_set.init.plain F.entry_set_init (check_set_init_1 kind ?_)) fun res2 t2 h2 => ?_
      · obtain ⟨⟨oc, od, dat, osl⟩, at_, ec, n0, edat⟩ := lst
        simp only at ec edat
        subst ec
        subst edat
        have at2 : (t.heap.push (emptySet w)).get? l = some { cls := .type "list", dict := od, data := .seq xs n0, slots := osl } := Heap.get?_push_of_some _ at_
        have s1 := F.sub_list_set
        have s2 := F.sub_list_frozenset
        have s3 : (Value.type "list" == Value.type "dict") = false := by decide
        have lst2 : (t.heap.push (emptySet w)).IsList l xs := ⟨_, at2, rfl, n0, rfl⟩
        unfold Builtin.«set.__init__» noKeywords Builtin.Frozenset.updateFrom
        generalize hit : pyIter = it
        wp_walk
        subst hit
        refine wpAny_pyIter_list lst2 (wpAny_bind (wpAny_runValue ?_))
        have low : l < t.heap.objs.size := Heap.lt_size at_
        have size1 : (t.heap.push (emptySet w)).objs.size = t.heap.objs.size + 1 := Heap.size_push ..
        have apart : l ≠ (t.heap.push (emptySet w)).objs.size := fun e => by rw [size1] at e; exact absurd e (Nat.ne_of_lt (Nat.lt_succ_of_lt low))
        have out_ : t.heap.objs.size ∉ [(t.heap.push (emptySet w)).objs.size, l] := by
          simp only [List.mem_cons, List.not_mem_nil, or_false, not_or]
          exact ⟨fun e => by rw [size1] at e; exact absurd e (Nat.ne_of_lt (Nat.lt_succ_self _)), Nat.ne_of_gt low⟩
        have each : ∀ (i : Nat) (v : Value), xs[i]? = some v → ∃ n u, ns[i]? = some n ∧ v = .int n u := fun i v hv => by
          have hi : i < ns.length := by rw [← many]; exact (Array.getElem?_eq_some_iff.mp hv).1
          obtain ⟨u, e⟩ := IntsAre.int_at hns i v (by rw [Array.getElem?_toList]; exact hv)
          have en : ns[i]? = some ns[i] := List.getElem?_eq_getElem hi
          exact ⟨ns[i], u, en, by rw [e, List.getD_eq_getElem?_getD, en]; rfl⟩
        refine set_update_ints ((Walks.list (show A.in1.in1.in1.handled = none by simp [hand]) _ l apart xs).toS) t.heap.objs.size out_ ns many few each (xs.size - 0) 0 _ (by omega) (Nat.zero_le _) ⟨⟨_, Heap.get?_push_size _ rfl, rfl, rfl⟩, lst2.push _⟩ ?start ?stop
        case start => exact ⟨0, Nat.le_refl 0, setR_new_at (Heap.get?_push_of_some _ here)⟩
        case stop =>
          rintro ⟨g, gg, dr, tk, os⟩ c mv hc R
          obtain rfl : gg = t.gens := mv.gens
          obtain rfl : dr = t.drawn := mv.drawn
          obtain rfl : os = t.os := mv.os
          rw [many] at hc
          show wpAny _ _ _ _ _ _
          refine wpAny_pure ?_
          show wpAny _ _ (ret Value.none) _ _ _
          refine wpAny_pure ⟨rfl, g, tk, c, rfl, R, hc, fun b o e => ?_⟩
          have lb := Heap.lt_size e
          refine mv.heap b o ?_ (Heap.get?_push_of_some _ (Heap.get?_push_of_some _ e))
          simp only [List.mem_cons, List.not_mem_nil, or_false, not_or]
          exact ⟨Nat.ne_of_lt lb, fun e => by rw [size1] at e; exact absurd e (Nat.ne_of_lt (Nat.lt_succ_of_lt lb))⟩
      · cases res2 with
        | error e => exact h2
        | ok fl2 =>
          cases fl2 with
          | next => exact h2.elim
          | brk => exact h2.elim
          | cont => exact h2.elim
          | ret v =>
            obtain ⟨rfl, made⟩ := h2
            obtain ⟨g, tk, c, rfl, R, hc, kp⟩ := made
            repeat (any_goals (first | assumption | wp_step))
            exact k _ ⟨g, tk, c, rfl, R, hc, kp⟩
end
section
variable {X : Cx} {z : Cz} {W : WX} {r : Fs}
/-- set(xs) of a list of ints, as the layer tells sets -/
def rSetL2 (K : PySem.W.Frag) (w : World) : List V → Hp → VK → Prop := fun xs H Q => ∃ (l : Addr) (ns : List Int), xs = [V.ref l] ∧ SqL K H l (ns.map V.int) ∧ ns.length < 64 ∧ ∀ (p : Addr) (c : Nat), H p = none → c < 64 → Q (.ref p) (upd H p (SetO w p (fun j => decide (j ∈ ns)) c))
theorem call_setL (hc : X.calm = true) : CallR X (.type "set") (rSetL2 X.K X.w) := by
  intro pins s σ H xs us Q I rv h
  obtain ⟨l, ns, rfl, hq, few, q⟩ := h
  obtain ⟨u, rfl, ru⟩ := rv.one
  obtain rfl : u = Value.ref l := ru
  obtain ⟨its, vs, pl, hz⟩ := I.list hq
  refine set_list_made (I.ok.hd hc) pl.isList (ints_of_vals vs) (by unfold scanBound; omega) fun t' made => ?_
  obtain ⟨g, tk, c, rfl, R, hcn, kp⟩ := made
  exact ⟨.ref _, upd H s.heap.objs.size (SetO X.w s.heap.objs.size (fun j => decide (j ∈ ns)) c), I.laid (t' := tk) kp (Nat.le_refl _) (setO_new R), rfl, q _ c (I.hok.fresh (Nat.le_refl _)) (by omega)⟩

/-! ### sorted, each once -/
theorem insertU_mem (x y : Int) : ∀ ns : List Int, y ∈ insertU x ns ↔ y = x ∨ y ∈ ns
  | [] => by simp [insertU]
  | n :: ns => by
    unfold insertU
    split
    · simp
    · split
      · rename_i h; subst h; simp
      · simp only [List.mem_cons, insertU_mem x y ns]
        constructor
        · rintro (h | h | h) <;> simp [h]
        · rintro (h | h | h) <;> simp [h]
theorem insertU_sorted (x : Int) : ∀ {ns : List Int}, ns.Pairwise (· < ·) → (insertU x ns).Pairwise (· < ·)
  | [], _ => by simp [insertU]
  | n :: ns, h => by
    obtain ⟨h1, h2⟩ := List.pairwise_cons.mp h
    unfold insertU
    split
    · rename_i c
      refine List.pairwise_cons.mpr ⟨fun y hy => ?_, h⟩
      rcases List.mem_cons.mp hy with e | e
      · rw [e]; exact c
      · exact Int.lt_trans c (h1 y e)
    · split
      · exact h
      · rename_i c1 c2
        refine List.pairwise_cons.mpr ⟨fun y hy => ?_, insertU_sorted x h2⟩
        rcases (insertU_mem x y ns).mp hy with e | e
        · rw [e]; omega
        · exact h1 y e
theorem sortU_mem (y : Int) : ∀ ns : List Int, y ∈ sortU ns ↔ y ∈ ns
  | [] => by simp [sortU]
  | n :: ns => by
    show y ∈ insertU n (sortU ns) ↔ _
    rw [insertU_mem, sortU_mem y ns, List.mem_cons]
theorem sortU_sorted : ∀ ns : List Int, (sortU ns).Pairwise (· < ·)
  | [] => List.Pairwise.nil
  | n :: ns => insertU_sorted n (sortU_sorted ns)
theorem one_sorted : ∀ {xs ys : List Int}, xs.Pairwise (· < ·) → ys.Pairwise (· < ·) → (∀ k, k ∈ xs ↔ k ∈ ys) → xs = ys
  | [], [], _, _, _ => rfl
  | [], y :: ys, _, _, h => absurd ((h y).mpr List.mem_cons_self) (by simp)
  | x :: xs, [], _, _, h => absurd ((h x).mp List.mem_cons_self) (by simp)
  | x :: xs, y :: ys, hx, hy, h => by
    obtain ⟨x1, x2⟩ := List.pairwise_cons.mp hx
    obtain ⟨y1, y2⟩ := List.pairwise_cons.mp hy
    have e : x = y := by
      rcases List.mem_cons.mp ((h x).mp List.mem_cons_self) with e | e
      · exact e
      · rcases List.mem_cons.mp ((h y).mpr List.mem_cons_self) with e2 | e2
        · exact e2.symm
        · have := y1 x e
          have := x1 y e2
          omega
    subst e
    rw [one_sorted x2 y2 fun k => ?_]
    constructor
    · intro hk
      rcases List.mem_cons.mp ((h k).mp (List.mem_cons_of_mem _ hk)) with e | e
      · have := x1 k hk; omega
      · exact e
    · intro hk
      rcases List.mem_cons.mp ((h k).mpr (List.mem_cons_of_mem _ hk)) with e | e
      · have := y1 k hk; omega
      · exact e
/-- an operation that makes other objects on its way to a new list -/
theorem op_inX {o : Op} {es : Es} {σ : L2.St} {H : Hp} {K : VK} (hnew : ∀ ds x, evalOp o ds = some x → ∃ xs, x = .new xs) (h : trE z W r (.op o es) σ H K) :
    trEs z W r es σ H fun vs H2 => ∃ F ds xs, Le F H2 ∧ evalOp o ds = some (.new xs) ∧ Rds F H2 ds vs ∧ ∀ H3 a ws, Le H2 H3 → H3 a = none → Reps F xs ws → K (.ref a) (upd H3 a (.lst ws)) := by
  obtain ⟨F, O, env, rel, w⟩ := h
  rw [denE_op] at w
  refine ⟨F, O, env, rel, wX.bind w fun qs env1 F1 H1 O1 _ s1 r1 w1 => ?_⟩
  intro vs t hq ft
  dsimp only at w1
  cases g : gets env1 qs with
  | none => rw [g] at w1; exact w1.elim
  | some ds =>
    rw [g] at w1
    dsimp only at w1
    cases ev : evalOp o ds with
    | none => rw [ev] at w1; exact w1.elim
    | some x =>
      rw [ev] at w1
      obtain ⟨xs, ex⟩ := hnew ds x ev
      subst ex
      refine ⟨F1, ds, xs, r1.le, ev, gets_rd r1 g hq, fun H3 a ws lH ha q => ?_⟩
      obtain ⟨s3, r3⟩ := Cz.Rel.ext r1 (Le.refl F1) lH (r1.le.trans lH) (fun _ _ h => .inl h)
      have fa := not_in r3.le ha
      obtain ⟨s2, r2⟩ := Cz.Rel.ext r3 (Le.refl F1) (le_upd ha (.lst ws)) (r3.le.trans (le_upd ha _)) (fun _ _ h => .inl h)
      refine w1 F1 _ O1 (s3.trans s2) r2 (.ref a) [a] ⟨a, ws, rfl, rfl, upd_same, fa, q⟩ ⟨by simp, fun b hb => ?_⟩
      cases List.mem_singleton.mp hb
      refine ⟨fun hO => ?_, s1.back (s3.back ha)⟩
      obtain ⟨us, e⟩ := r3.ofO a hO
      rw [ha] at e; cases e
theorem sortset_new : ∀ (ds : List D) (x : Z), evalOp .sortset ds = some x → ∃ xs, x = .new xs := by
  intro ds x e
  rcases ds with _ | ⟨d, _ | ⟨d2, ds⟩⟩
  · simp [evalOp] at e
  · cases d <;> simp [evalOp] at e
    rename_i xs
    cases hi : ints? xs with
    | none => rw [hi] at e; simp at e
    | some ns =>
      rw [hi] at e
      simp at e
      exact ⟨_, e.2.symm⟩
  · cases d <;> simp [evalOp] at e
variable {a : Expr} {ma : E} {p p2 pos pos2 : Pos}
theorem je_sortset (hc : X.calm = true) (hg : Gl X "sorted") (hm : X.mg "sorted" = none) (hg2 : Gl X "set") (hm2 : X.mg "set" = none) (ha : PE X a (trE z W r ma)) (s1 : starEach [a] X.env = (false, eval a X.env) :: starEach [] X.env := by rfl)
    (s2 : starEach [.Call (.Name "set" p2) [a] [] pos2] X.env = (false, eval (.Call (.Name "set" p2) [a] [] pos2) X.env) :: starEach [] X.env := by rfl) :
    PE X (.Call (.Name "sorted" p) [.Call (.Name "set" p2) [a] [] pos2] [] pos) (trE z W r (.op .sortset (.cons ma .nil))) :=
  PE.imp (pe_callB (cr_sortedSet hc) hg hm boot_sorted (pa_cons (pe_callTy (call_setL hc) hg2 hm2 boot_set (pa_cons ha pa_nil s1) (by decide) (by decide) s1 rfl) pa_nil s2) (by decide) (by decide) s2 rfl) fun σ H K h =>
    trE.mono (one_in (op_inX sortset_new h)) fun x H1 ⟨F, ds, ys, l, e, rd, f⟩ => by
      obtain ⟨d, e', g⟩ := rds1 rd
      subst e'
      cases d <;> simp [evalOp] at e
      rename_i xs
      cases hi : ints? xs with
      | none => rw [hi] at e; simp at e
      | some ns =>
        rw [hi] at e
        simp at e
        obtain ⟨few, e⟩ := e
        subst e
        obtain ⟨b, vs, ex, hb, rs⟩ := g
        subst ex
        have ev := ints?_reps hi rs
        subst ev
        refine ⟨b, ns, rfl, SqL.of hb, few, fun q c hq hcn => ⟨q, _, c, rfl, upd_same, hcn, fun ms u hs hk hl hu => ?_⟩⟩
        have same : ms = sortU ns := one_sorted hs (sortU_sorted ns) fun k => by rw [hk k, sortU_mem, decide_eq_true_eq]
        subst same
        exact f _ u _ (le_upd hq _) hu (Reps.ints _)
end
end Rx

/-! RxEnum -/
/-! RxEnum: enumerate over a list or a tuple; a < b <= c. -/
set_option linter.all false
set_option Elab.async false
set_option maxRecDepth 100000
set_option maxHeartbeats 4000000
namespace PySem
open Sem (wp)
set_option maxHeartbeats 4000000 in
/-- enumerate(v) of one argument, over whatever begins -/
theorem rx_enum_new {v : Value} {o : Obj} {G : Heap → Prop} (B : Begins v o G) : Meets (Builtin.«enumerate.__new__» ⟨[.type "enumerate", v], []⟩) (fun _ R t => G t.heap ∧
      R (.ok (.ret (.ref (t.heap.push o).objs.size))) { t with heap := (t.heap.push o).push { cls := .type "enumerate", data := .fields #[.none, .bool false, .ref t.heap.objs.size, rawInt 0, .none, .none] } }) :=
  .of_wp fun prog w A R t q => by
    obtain ⟨g, gg, dr, tk, os⟩ := t
    obtain ⟨q1, q2⟩ := q
    have sub_ := sub_enumerate
    have step : ∀ {A' : Around} {E : Value → Shared → Prop} {Q : Value → Shared → Prop}, Q (.ref g.objs.size) ⟨g.push o, gg, dr, tk, os⟩ → wpAny (model prog w) A' (pyIter v) Q E ⟨g, gg, dr, tk, os⟩ := fun k => B.iter prog w _ _ ⟨g, gg, dr, tk, os⟩ _ q1 k
    wp_walk using step
    refine wpAny_stack_any fun st => wpAny_pure ?_
    split
    · rename_i c _ _ _ _ _
      cases (c == Value.type "enumerate") <;> (wp_walk using step; exact ⟨_, rfl, q2⟩)
    · wp_walk using step
      exact ⟨_, rfl, q2⟩
theorem rx_enum {prog : Program} {w : World} {A : Around} {E : Value → Shared → Prop} {t : Shared} {v : Value} {o : Obj} {G : Heap → Prop} {Q : Value → Shared → Prop} (B : Begins v o G) (q : G t.heap)
    (k : ∀ g, IsEnum g (t.heap.objs.size + 1) t.heap.objs.size 0 .none → g.get? t.heap.objs.size = some o → (∀ b u, t.heap.get? b = some u → g.get? b = some u) → Q (.ref (t.heap.objs.size + 1)) { t with heap := g }) :
    wpAny (model prog w) A (call (.type "enumerate") [v]) Q E t := by
  refine callType_new F.called_enumerate (by decide) (F.typeCall_enumerate_1 _) (F.newCall_enumerate_1 _) (fun obj => F.args_object_init_2 obj _) F.entry_enumerate_new (rx_enum_new B) ⟨q, ?_⟩
  have sz : (t.heap.push o).objs.size = t.heap.objs.size + 1 := Heap.size_push ..
  show _ ∧ _
  rw [sz]
  have at_ := Heap.get?_push_size (t.heap.push o) (o := { cls := .type "enumerate", data := .fields #[.none, .bool false, .ref t.heap.objs.size, rawInt 0, .none, .none] }) rfl
  rw [sz] at at_
  exact ⟨⟨_, at_, rfl⟩, k _ at_ (Heap.get?_push_of_some _ (Heap.get?_push_size _ B.free)) fun b u x => Heap.get?_push_of_some _ (Heap.get?_push_of_some _ x)⟩
end PySem
namespace Rx
open PySem PySem.Spec PyProof.Rows L2
/-- the tuple at a, its items in new pairs with their places -/
def IteT (K : PySem.W.Frag) (a : Addr) : It where
  go := fun i H => ∃ xs x, SqT K H a xs ∧ xs[i]? = some x
  yld := fun i H v H' => ∃ p x, v = .ref p ∧ H p = none ∧ H' = upd H p (.tup [.int (i : Nat), x]) ∧ ∀ xs, SqT K H a xs → xs[i]? = some x
  stop := fun i H => ∃ xs, SqT K H a xs ∧ xs.length ≤ i
/-- behind its last item a tuple's iterator draws no more -/
theorem ends_tuple {P : Program} {w : World} {A : Around} (hand : A.handled = none) (it a : Addr) (n : Nat) (xs : Array Value) (over : xs.size ≤ n) : Draws P w A it [it, a] n (fun _ _ => False) (fun i h => i = n ∧ h.IsTupleIter it a n ∧ h.IsTuple a xs) where
  live := fun i h st => let ⟨o, ho, _⟩ := st.2.1; ⟨o, ho⟩
  frame := fun i h h' st k => ⟨st.1, st.2.1.at fun o e => k it (by simp) o e, st.2.2.at fun o e => k a (by simp) o e⟩
  item := fun i t Q E lt st _ => absurd st.1 (Nat.ne_of_lt lt)
  done := fun t Q E st k => wpAny_nextOf_tuple_end hand st.2.1 st.2.2 (by simp; omega) k
theorem turn_enumT {P : Program} {w : World} {K : PySem.W.Frag} {es : List Expr} {kk : Nat} {tp : Pos} (a e it : Addr) :
    Turn P w K (.Tuple es kk tp) (IteT K a) [e, it] e (fun i h => (∃ old, IsEnum h e it ((i : Nat) : Int) old) ∧ h.IsTupleIter it a i ∧ e ≠ it) where
  mem := List.mem_cons_self
  obj := fun i h st b hb => by
    obtain ⟨⟨old, q⟩, ⟨o, q1, q2, q3⟩, _⟩ := st
    rcases List.mem_cons.mp hb with z | z
    · exact ⟨_, by rw [z]; exact q, fun v y => by cases y⟩
    · exact ⟨o, by rw [List.mem_singleton.mp z]; exact q1, fun v y => by rw [q3] at y; cases y⟩
  keep := fun i h h' st k => by
    obtain ⟨⟨old, q⟩, q1, ne⟩ := st
    exact ⟨⟨old, k e (by simp) _ q⟩, q1.at fun o x => k it (by simp) o x, ne⟩
  item := by
    intro X hP hw hK hc i pins s σ H E I hf st hg
    subst hP hw hK
    obtain ⟨⟨old, he⟩, hi, ne⟩ := st
    obtain ⟨xs, x, hq, hx⟩ := hg
    obtain ⟨its, rv, pt, _⟩ := I.tuple hq
    have pt : s.heap.IsTuple a its.toArray := pt
    obtain ⟨u, hu, ru⟩ := rv.get hx
    have le := Heap.lt_size he
    have li : it < s.heap.objs.size := by obtain ⟨_, q, _⟩ := hi; exact Heap.lt_size q
    have ait : a ≠ it := fun z => by
      obtain ⟨o1, a1, a2, _⟩ := pt
      obtain ⟨o2, b1, b2, _⟩ := hi
      rw [z, b1] at a1
      cases a1
      rw [b2] at a2
      exact absurd a2 (by decide)
    have ea : e ≠ a := fun z => by
      obtain ⟨o1, a1, a2, _⟩ := pt
      have he2 : s.heap.get? e = _ := he
      rw [z, a1] at he2
      cases he2
      exact absurd (show Value.type "enumerate" = Value.type "tuple" from a2) (by decide)
    have hin : i < its.toArray.size := by
      have := (List.getElem?_eq_some_iff.mp hu).1
      simpa using this
    refine wpAny_pyNext_enum_itemD (Draws.tuple (show X.A.in1.handled = none from I.ok.hd hc) it a ait its.toArray) he ⟨hi, pt⟩ hin ne (by simp only [List.mem_cons, List.not_mem_nil, or_false, not_or]; exact ⟨ne, ea⟩) fun y g tk hy out ⟨hi2, _⟩ hT _ hk => ?_
    have ey : y = u := by
      have : its.toArray[i]? = some y := hy
      rw [← Array.getElem?_toList] at this
      rw [show its.toArray.toList = its from rfl, hu] at this
      cases this; rfl
    subst ey
    refine ⟨_, rfl, wpAny_letOwnedTupleGo_enum (s := { s with heap := g, toks := tk + 1 }) out fun g2 he2 sb => ?_⟩
    have hT2 : g2.get? s.heap.objs.size = some { cls := .type "tuple", data := .seq #[.int i tk, y] } := (sb.2 _ (Nat.ne_of_gt le)).trans hT
    have new : ObjOk X.prog X.w (upd H s.heap.objs.size (.tup [.int (i : Nat), x])) g2 s.heap.objs.size (.tup [.int (i : Nat), x]) := ⟨(by show 2 ≤ sizeLine; decide), [.int i tk, y], .cons ⟨_, rfl⟩ (.cons ru .nil), ⟨_, hT2, rfl, _, rfl⟩⟩
    have J : Inv X pins σ (upd H s.heap.objs.size (.tup [.int (i : Nat), x])) { s with heap := g2, toks := tk + 1 } :=
      I.turnedNew (ch := [e, it]) (fun b o hb q => (sb.2 b fun z => hb (by simp [z])).trans (hk b o (fun z => hb (by simp [z])) (fun z => hb (by simp [z])) q)) hf (Nat.le_refl _) new
    refine ⟨.ref s.heap.objs.size, _, J, rfl, ⟨_, x, rfl, I.hok.fresh (Nat.le_refl _), rfl, fun ys hy => by rw [I.tuple_inj hy hq]; exact hx⟩, ⟨⟨y, ?_⟩, hi2.at fun o q => (sb.2 it (Ne.symm ne)).trans q, ne⟩, fun b hb => ?_⟩
    · rw [show ((i + 1 : Nat) : Int) = (i : Int) + 1 by omega]; exact he2
    · have lb : b < s.heap.objs.size := by
        rcases List.mem_cons.mp hb with z | z
        · rw [z]; exact le
        · rw [List.mem_singleton.mp z]; exact li
      rw [upd_ne (Nat.ne_of_lt lb)]
      exact (hf b hb).1
  done := by
    intro X hP hw hK hc i pins s σ H E I hf st hg
    subst hP hw hK
    obtain ⟨⟨old, he⟩, hi, ne⟩ := st
    obtain ⟨xs, hq, hx⟩ := hg
    obtain ⟨its, rv, pt, _⟩ := I.tuple hq
    obtain ⟨f0, f1, f2, f3, f4, f5⟩ := hf it (by simp)
    have over : its.toArray.size ≤ i := by rw [List.size_toArray, ← rv.length]; exact hx
    exact wpAny_pyNext_enum_endD (ends_tuple (show X.A.in1.handled = none from I.ok.hd hc) it a i its.toArray over) he ⟨rfl, hi, pt⟩ fun g kp => ⟨rfl, I.turned (t' := s.toks) (fun b o hb q => kp b o hb q) f0 f1 f3 f4 f5⟩
  self := fun A i s Q E st h => by
    obtain ⟨⟨_, he⟩, _⟩ := st
    exact wpAny_pyIter_enum he h

section
variable {X : Cx}
def iEnumA (K : PySem.W.Frag) (te : TE) : TI := fun σ H R => te σ H fun v H1 => ∃ a xs, v = .ref a ∧ ((SqL K H1 a xs ∧ R (Ite K a) H1) ∨ (SqT K H1 a xs ∧ R (IteT K a) H1))
theorem pi_enumA {e : Expr} {te : TE} {es : List Expr} {kk : Nat} {tp p pos : Pos} (hg : Gl X "enumerate") (hm : X.mg "enumerate" = none) (he : PE X e te) (hs : starEach [e] X.env = (false, eval e X.env) :: starEach [] X.env := by rfl) :
    PI X (.Tuple es kk tp) (.Call (.Name "enumerate" p) [e] [] pos) (iEnumA X.K te) := by
  refine ⟨fun pins s σ H R I h => ?_⟩
  refine Call_ (ld_blt I hg hm boot_enumerate (PyProof.Rows.callWith_type1 (args_cons (thn (he.run pins s σ H _ I h) fun u s1 ⟨v, H1, I1, r1, q1⟩ => args_nil ?_) hs) hs rfl))
  obtain ⟨a, xs, ev, q⟩ := q1
  subst ev
  obtain rfl : u = Value.ref a := r1
  have fresh : ∀ b ∈ [s1.heap.objs.size + 1, s1.heap.objs.size], FpOk X pins H1 b := fun b hb => by
    have le : s1.heap.objs.size ≤ b := by
      rcases List.mem_cons.mp hb with z | z
      · rw [z]; exact Nat.le_add_right _ _
      · rw [List.mem_singleton.mp z]; exact Nat.le_refl _
    exact I1.fpOk le (I1.hok.fresh le)
  rcases q with ⟨hq, q⟩ | ⟨hq, q⟩
  · obtain ⟨its, rv, pl, _⟩ := I1.list hq
    refine rx_enum (begins_list a its.toArray) pl.isList fun g he2 hi kp => wpAny_pyIter_enum he2 ?_
    exact ⟨s1.heap.objs.size + 1, [s1.heap.objs.size + 1, s1.heap.objs.size], _, _, H1, rfl, I1.kept (t' := s1.toks) kp, turn_enum a (s1.heap.objs.size + 1) s1.heap.objs.size, ⟨⟨.none, he2⟩, ⟨_, hi, rfl, rfl⟩, Nat.succ_ne_self _⟩, fresh, q⟩
  · obtain ⟨its, rv, pt, _⟩ := I1.tuple hq
    refine rx_enum (begins_tuple a its.toArray) (show s1.heap.IsTuple a its.toArray from pt) fun g he2 hi kp => wpAny_pyIter_enum he2 ?_
    exact ⟨s1.heap.objs.size + 1, [s1.heap.objs.size + 1, s1.heap.objs.size], _, _, H1, rfl, I1.kept (t' := s1.toks) kp, turn_enumT a (s1.heap.objs.size + 1) s1.heap.objs.size, ⟨⟨.none, he2⟩, ⟨_, hi, rfl, rfl⟩, Nat.succ_ne_self _⟩, fresh, q⟩
end
section
variable {X : Cx} {z : Cz} {W : WX} {r : Fs}
theorem wok_enumT {K : PySem.W.Frag} {F0 : Hp} {σ0 : L2.St} {a : Addr} {ds : List D} {vs : List V} (h : F0 a = some (.tup vs)) (rs : Reps F0 ds vs) : WOk z F0 σ0 (.vs (enumL 0 ds)) (IteT K a) := fun F H env σ O k l rel _ => by
  have q : SqT K H a vs := SqT.of (rel.le _ _ (l _ _ h))
  show WAt _ k F H (some (enumL 0 ds)[k]?)
  rw [enumL_get]
  cases e : ds[k]? with
  | none => exact ⟨vs, q, reps_none rs e⟩
  | some d =>
    obtain ⟨x, e1, rp⟩ := rs.get e
    refine ⟨⟨vs, x, q, e1⟩, fun y H' hy => ?_⟩
    obtain ⟨p, x', ey, hp, eH, hx⟩ := hy
    have same := hx vs q
    rw [e1] at same
    cases same
    subst ey eH
    rw [Nat.zero_add]
    exact wat_pair rel.le hp (by simp only [Rep]) (rp.mono l)
theorem ji_enum {e : Expr} {me : E} {es : List Expr} {kk : Nat} {tp p pos : Pos} (hg : Gl X "enumerate") (hm : X.mg "enumerate" = none) (he : PE X e (trE z W r me)) (hs : starEach [e] X.env = (false, eval e X.env) :: starEach [] X.env := by rfl) :
    PI X (.Tuple es kk tp) (.Call (.Name "enumerate" p) [e] [] pos) (trI z W r (.enum me)) := PI.imp (pi_enumA hg hm he hs) fun σ H R ⟨F, O, env, rel, w⟩ => by
  rw [denI] at w
  refine ⟨F, O, env, rel, wX.bind0 w fun q env1 F1 H1 O1 _ s1 r1 w1 => ?_⟩
  intro v t hq ft
  dsimp only at w1
  split at w1
  · rename_i i
    obtain ⟨_, hv⟩ := hq
    split at w1
    · rename_i xs hs
      obtain ⟨a, vs, k1, h1, _, _, rs⟩ := own_at r1 hs
      rw [hv] at k1
      have e1 := Option.some.inj (Option.some.inj k1)
      exact ⟨a, vs, e1, .inl ⟨SqL.of h1, w1 F1 H1 O1 s1 r1 _ (wok_enumOwn (by rw [hv, e1]))⟩⟩
    · rename_i xs hs
      obtain ⟨u, F2, O2, k1, st, r2, rp⟩ := froze r1 hs
      rw [hv] at k1
      have e1 := Option.some.inj (Option.some.inj k1)
      rw [← e1] at rp
      simp only [Rep] at rp
      obtain ⟨a, vs, e2, h1, rs⟩ := rp
      exact ⟨a, vs, e2, .inl ⟨SqL.of (r2.le _ _ h1), w1 F2 H1 O2 (s1.trans st) r2 _ (wok_enum h1 rs)⟩⟩
    · exact w1.elim
  · cases k : q.keep with
    | none => rw [k] at w1; exact w1.elim
    | some d =>
      rw [k] at w1
      dsimp only at w1
      obtain ⟨F2, rp, l1, l2, r2, kk⟩ := kept r1 hq ft k
      have s2 := kept_step s1 l1 kk
      cases d with
      | lst ds =>
        simp only [Rep] at rp
        obtain ⟨a, vs, e2, h1, rs⟩ := rp
        exact ⟨a, vs, e2, .inl ⟨SqL.of (l2 _ _ h1), w1 F2 H1 O1 s2 r2 _ (wok_enum h1 rs)⟩⟩
      | tup ds =>
        simp only [Rep] at rp
        obtain ⟨a, vs, e2, h1, rs⟩ := rp
        exact ⟨a, vs, e2, .inr ⟨SqT.of (l2 _ _ h1), w1 F2 H1 O1 s2 r2 _ (wok_enumT h1 rs)⟩⟩
      | _ => exact w1.elim

/-! ### a < b <= c -/
theorem get_rd {F H : Hp} {σ : L2.St} {env : Env} {O : List Addr} {q : Q} {v : V} {t : List Addr} {d : D} (rel : z.Rel F H env σ O) (hq : RQ z F H σ q v t) (g : q.get env = some d) : Rd1 F H d v := by
  have rd : Rds F H [d] [v] := gets_rd rel (qs := [q]) (t := t) (by simp only [gets, g]) ⟨v, [], t, [], rfl, (List.append_nil t).symm, hq, rfl, rfl⟩
  obtain ⟨d', e, h⟩ := rds1 rd
  cases e
  exact h
theorem chain_in {o p : Op} {r2 r2' : R2} {ma mb mc : E} {K K2 : VK} (sp : Sp2 o r2) (sp' : Sp2 p r2') {σ : L2.St} {H : Hp} (hK : ∀ k H, K (.bl k) H → K2 (.bl k) H) (h : trE z W r (.chain o p ma mb mc) σ H K) : tChain r2 r2' (trE z W r ma) (trE z W r mb) (trE z W r mc) σ H K2 := by
  obtain ⟨F, O, env, rel, w⟩ := h
  rw [denE_chain] at w
  refine ⟨F, O, env, rel, wX.bind0 w fun q1 env1 F1 H1 O1 _ s1 r1 w1 => ?_⟩
  intro v1 t1 hq1 ft1
  have n1 : ∀ a ∈ t1, a ∉ O1 := fun a ha => (ft1.2 a ha).1
  refine ⟨F1, O1, env1, r1, wX.bind0 (wX.shift s1 w1) fun q2 env2 F2 H2 O2 _ s2 r2_ w2 => ?_⟩
  intro v2 t2 hq2 ft2
  have n2 : ∀ a ∈ t2, a ∉ O2 := fun a ha => (ft2.2 a ha).1
  dsimp only at w2
  split at w2
  · rename_i dx dy g1 g2
    have d1 := get_rd r2_ (hq1.stay s2 r1.ofO n1) g1
    have d2 := get_rd r2_ hq2 g2
    split at w2
    · rename_i ev
      refine sp F2 H2 dx dy v1 v2 _ _ r2_.le ev d1 d2 fun v' F' H' l1 l2 l3 kk rp => ?_
      obtain ⟨s3, r3⟩ := Cz.Rel.ext r2_ l1 l2 l3 kk
      refine ⟨true, by simpa only [Rep] using rp, iteT ⟨F', O2, env2, r3, wX.bind0 (wX.shift (s2.trans s3) w2) fun q3 env3 F4 H4 O4 _ s4 r4 w4 => ?_⟩⟩
      intro v3 t3 hq3 ft3
      dsimp only at w4
      have hq2' := (hq2.stay s3 r2_.ofO n2).stay s4 r3.ofO n2
      split at w4
      · rename_i dy' dz g3 g4
        split at w4
        · rename_i k ev2
          refine sp' F4 H4 dy' dz v2 v3 _ _ r4.le ev2 (get_rd r4 hq2' g3) (get_rd r4 hq3 g4) fun v5 F5 H5 l1 l2 l3 kk rp => ?_
          obtain ⟨s5, r5⟩ := Cz.Rel.ext r4 l1 l2 l3 kk
          have e5 : v5 = .bl k := by simpa only [Rep] using rp
          subst e5
          exact hK k _ (w4 F5 H5 O4 (s4.trans s5) r5 (.bl k) [] ⟨rfl, pBl⟩ (Fresh.nil _ _))
        · exact w4.elim
      · exact w4.elim
    · rename_i ev
      refine sp F2 H2 dx dy v1 v2 _ _ r2_.le ev d1 d2 fun v' F' H' l1 l2 l3 kk rp => ?_
      obtain ⟨s3, r3⟩ := Cz.Rel.ext r2_ l1 l2 l3 kk
      exact ⟨false, by simpa only [Rep] using rp, iteF (hK false _ (w2 F' H' O2 (s2.trans s3) r3 (.bl false) [] ⟨rfl, pBl⟩ (Fresh.nil _ _)))⟩
    · exact w2.elim
  · exact w2.elim
variable {a b c : Expr} {ma mb mc : E} {pos : Pos} {op op' : CmpOp} {o p : Op} {r2 r2' : R2}
theorem je_chain (ho : OpR X (compareOp op) r2) (sp : Sp2 o r2) (ho' : OpR X (compareOp op') r2') (sp' : Sp2 p r2') (ha : PE X a (trE z W r ma)) (hb : PE X b (trE z W r mb)) (hc : PE X c (trE z W r mc)) (hm : lastMarks [op, op'] [b, c] = false := by with_unfolding_all rfl) :
    PE X (.Compare a [op, op'] [b, c] pos) (trE z W r (.chain o p ma mb mc)) := PE.imp (pe_chain ho ho' ha hb hc hm) fun σ H K h => chain_in sp sp' (fun _ _ q => q) h
theorem jt_chain (ho : OpR X (compareOp op) r2) (sp : Sp2 o r2) (ho' : OpR X (compareOp op') r2') (sp' : Sp2 p r2') (ha : PE X a (trE z W r ma)) (hb : PE X b (trE z W r mb)) (hc : PE X c (trE z W r mc)) (hm : lastMarks [op, op'] [b, c] = false := by with_unfolding_all rfl) :
    PT X (.Compare a [op, op'] [b, c] pos) (trT z W r (.chain o p ma mb mc)) := PT.imp (pt_chain ho ho' ha hb hc hm) fun σ H K h =>
    chain_in sp sp' (fun k H1 ⟨F, d, k', _, rd, tv, q⟩ => ⟨k, rfl, by rw [truth_bl rd tv rfl]; exact q⟩) (testE (denT_plain r rfl) h)
end
end Rx

/-! RxAny -/
/-! RxAny: the law's draws: what _law_any gives, by hand. -/
set_option linter.all false
set_option Elab.async false
set_option maxRecDepth 100000
set_option maxHeartbeats 4000000
namespace Rx
/-- the law's deal: the large cells that are left, the last one first to be used up -/
def strip0 : List Int → List Int
  | [] => []
  | x :: r => if x = 0 then strip0 r else x :: r
/-- a draw below a bound: on the reversed list of large cells -/
def anyR (rev : List Int) (seed bound : Int) : Int × List Int × Int :=
  match strip0 rev with
  | x :: r => (x % bound, (x / bound) :: r, seed)
  | [] => let s := (seed * 40693 + 71) % 2147483647
    ((s / 64) % bound, [], s)
def anyF : List M → RF
  | [.deal true big seed, .val (.int b)] => if (0 < b ∧ b.natAbs.log2 < 9000) ∧ (0 ≤ seed ∧ seed < 2147483647) ∧ big.2.length ≤ 1000 then
      .ok (.val (.int (anyR big.2.reverse seed b).1)) [.deal true (big.1, (anyR big.2.reverse seed b).2.1.reverse) (anyR big.2.reverse seed b).2.2, .val (.int b)] else .stuck
  | _ => .stuck
def blendOf (salt : Int) (cells : List Int) : Int := cells.foldl (fun b c => (b * 48271 + c % 2147483549 + 11) % 2147483647) (7919 + 104729 * salt)
def cellsOf (ns : List Int) : List Int := (ns.take 48).map fun i => if i < 0 then -i else i
/-- the law's deal of a script; c: where its list lies -/
def dealOf (salt : Int) (c : Nat) (ns : List Int) : M :=
  .deal false (c, ((cellsOf ns).filter fun x => decide (10 ^ 18 ≤ x)).reverse) (blendOf salt (cellsOf ns))
end Rx
namespace Rx
open PySem PySem.Spec PyProof.Rows L2

theorem pickT {c : Bool} {A B : Prop} (hc : c = true) (h : A) : if c = true then A else B := by
  subst hc
  rw [if_pos rfl]
  exact h
theorem pickF {c : Bool} {A B : Prop} (hc : c = false) (h : B) : if c = true then A else B := by
  subst hc
  rw [if_neg Bool.false_ne_true]
  exact h
/-- the deal in memory -/
structure Dl (H : Hp) (a c : Addr) (n : Int) (xs : List Int) : Prop where
  ha : H a = some (.lst [.ref c, .int n])
  hc : H c = some (.lst (xs.map V.int))
  ne : a ≠ c
/-- else all is as it was -/
def Els (H H' : Hp) (a c : Addr) : Prop := ∀ b o, b ≠ a → b ≠ c → H b = some o → H' b = some o
section
variable {H H' : Hp} {a c p : Addr} {n m : Int} {xs ys : List Int} {o : HO} {K : PySem.W.Frag} {σ : L2.St} {Q : VK}
theorem Dl.new (d : Dl H a c n xs) (h : H p = none) : Dl (upd H p o) a c n xs :=
  ⟨by rw [upd_ne (fun e => by rw [e] at d; rw [d.ha] at h; cases h)]; exact d.ha, by rw [upd_ne (fun e => by rw [← e, d.hc] at h; cases h)]; exact d.hc, d.ne⟩
theorem Dl.cells (d : Dl H a c n xs) : Dl (upd H c (.lst (ys.map V.int))) a c n ys := ⟨by rw [upd_ne d.ne]; exact d.ha, upd_same, d.ne⟩
theorem Dl.seed (d : Dl H a c n xs) : Dl (upd H a (.lst [.ref c, .int m])) a c m xs := ⟨upd_same, by rw [upd_ne d.ne.symm]; exact d.hc, d.ne⟩
theorem Els.refl : Els H H a c := fun _ _ _ _ h => h
theorem Els.new (e : Els H H' a c) (h : H' p = none) : Els H (upd H' p o) a c := fun b u n1 n2 q => by
  have := e b u n1 n2 q
  rw [upd_ne (fun z => by rw [z, h] at this; cases this)]
  exact this
theorem Els.cells (e : Els H H' a c) : Els H (upd H' c o) a c := fun b u n1 n2 q => by rw [upd_ne n2]; exact e b u n1 n2 q
theorem Els.seed (e : Els H H' a c) : Els H (upd H' a o) a c := fun b u n1 n2 q => by rw [upd_ne n1]; exact e b u n1 n2 q

/-- deal[0] -/
def t0 (K : PySem.W.Frag) : TE := tOp (rIxL K) (tVar 0) (tC (.int 0))
def tLast (K : PySem.W.Frag) : TE := tOp (rIxL K) (t0 K) (tUn (rU fun i => .int (-i)) (tC (.int 1)))
def tSome (K : PySem.W.Frag) : TT := tTest (tOp (rNeD K) (t0 K) (tLst tNil))
def tZero (K : PySem.W.Frag) : TT := tTest (tOp (rEqD K) (tLast K) (tC (.int 0)))
theorem rd0 (d : Dl H a c n xs) (hs : σ[0]? = some (some (.ref a))) (q : Q (.ref c) H) : t0 K σ H Q := ⟨.ref a, hs, a, _, 0, .ref c, rfl, rfl, SqL.of d.ha, rfl, q⟩
theorem rd1 (d : Dl H a c n xs) (hs : σ[0]? = some (some (.ref a))) (q : Q (.int n) H) : tOp (rIxL K) (tVar 0) (tC (.int 1)) σ H Q := ⟨.ref a, hs, a, _, 1, .int n, rfl, rfl, SqL.of d.ha, rfl, q⟩
theorem flats_ints : ∀ (k : Nat) (ns : List Int), D.flats k (ns.map .int) = true
  | _, [] => by simp [D.flats]
  | k, n :: ns => by
    simp only [List.map_cons, D.flats, Bool.and_eq_true]
    exact ⟨by cases k <;> rfl, flats_ints k ns⟩
theorem eqvs_nil : ∀ ns : List Int, D.eqvs (ns.map .int) [] = ns.isEmpty
  | [] => by simp [D.eqvs]
  | n :: ns => by simp [D.eqvs]
theorem rdSome (d : Dl H a c n xs) (hs : σ[0]? = some (some (.ref a))) {R : Bool → Hp → Prop} (q : ∀ p, H p = none → R (!xs.isEmpty) (upd H p (.lst []))) : tSome K σ H R := by
  refine rd0 d hs ⟨by rw [sizeLine_eq]; decide, fun p hp => ?_⟩
  have d2 : Dl (upd H p (.lst [])) a c n xs := d.new hp
  refine ⟨_, _, Rep.dp (F := upd H p (.lst [])) (K := K) (Le.refl _) (d := .lst (xs.map .int)) (show Rep _ _ (.ref c) from ⟨c, _, rfl, d2.hc, Reps.ints xs⟩),
    Rep.dp (F := upd H p (.lst [])) (K := K) (Le.refl _) (d := .lst []) (show Rep _ _ (.ref p) from ⟨p, _, rfl, upd_same, Reps.nil⟩), flat_ok ?_, flat_ok rfl, _, rfl, ?_⟩
  · simp only [D.flat]
    exact flats_ints _ xs
  · rw [eqv_py _ _ rfl]
    have e : D.eqv (.lst (xs.map .int)) (.lst []) = xs.isEmpty := by
      simp only [D.eqv]
      exact eqvs_nil xs
    rw [e]
    exact q p hp
theorem at_last {x : Int} : ∀ {ys : List Int}, ys.reverse = x :: xs → atI (ys.map V.int) (-1) = some (V.int x) := fun {ys} h => by
  have e : ys = xs.reverse ++ [x] := by
    have := congrArg List.reverse h
    simpa using this
  subst e
  unfold atI ixN
  have l : (-1 + ((xs.length : Int) + 1)).toNat = xs.length := by omega
  have g : (1 : Int) ≤ (xs.length : Int) + 1 := by omega
  simp [l, g]
theorem rdLast {x : Int} (d : Dl H a c n ys) (hs : σ[0]? = some (some (.ref a))) (h : ys.reverse = x :: xs) (q : Q (.int x) H) : tLast K σ H Q :=
  rd0 d hs ⟨1, rfl, c, _, -1, .int x, rfl, rfl, SqL.of d.hc, at_last h, q⟩
theorem rdZero {x : Int} (d : Dl H a c n ys) (hs : σ[0]? = some (some (.ref a))) (h : ys.reverse = x :: xs) {R : Bool → Hp → Prop} (q : R (decide (x = 0)) H) : tZero K σ H R := by
  refine rdLast d hs h ⟨_, _, Rep.dp (F := H) (K := K) (Le.refl _) (d := .int x) (by simp [Rep]), Rep.dp (F := H) (K := K) (Le.refl _) (d := .int 0) (by simp [Rep]), flat_ok rfl, flat_ok rfl, _, rfl, ?_⟩
  rw [eqv_py _ _ rfl]
  have e : D.eqv (.int x) (.int 0) = decide (x = 0) := by
    simp only [D.eqv]
    by_cases h : x = 0 <;> simp [h]
  rw [e]
  exact q
def tPop0 (K : PySem.W.Frag) : TE := tBM0 K "list" rPop (t0 K)
theorem rdPop {x : Int} (d : Dl H a c n ys) (hs : σ[0]? = some (some (.ref a))) (h : ys.reverse = x :: xs) (q : Q (.int x) (upd H c (.lst (xs.reverse.map V.int)))) : tPop0 K σ H Q := by
  have e : ys = xs.reverse ++ [x] := by
    have := congrArg List.reverse h
    simpa using this
  subst e
  refine rd0 d hs ⟨.inl ⟨rfl, _, SqL.of d.hc⟩, c, _, .int x, rfl, rfl, d.hc, by simp, ?_⟩
  have e2 : ((xs.reverse ++ [x]).map V.int).dropLast = xs.reverse.map V.int := by simp
  rw [e2]
  exact q
def tApp0 (K : PySem.W.Frag) (te : TE) : TE := tBM K "list" rAppend (t0 K) (tCons te tNil)
end
def tInt (te : TE) : TE := tCB (fun xs H Q => (∃ i, xs = [.int i] ∧ Q (.int i) H) ∨ ∃ k, xs = [.bl k] ∧ Q (.int (if k then 1 else 0)) H) (tCons te tNil)
def tModW (ta tb : TE) : TE := tOp (rI (fun _ j => 0 < j) fun i j => .int (i % j)) ta tb
def tDivW (ta tb : TE) : TE := tOp (rI CDivW fun i j => .int (i / j)) ta tb
def tMulW (ta tb : TE) : TE := tOp (rI CMulW fun i j => .int (i * j)) ta tb
def tAddI (ta tb : TE) : TE := tOp (rI0 fun i j => .int (i + j)) ta tb
section
variable {X : Cx} {te : TE} {e : Expr} {p pos : Pos}
theorem pe_intOf (hg : Gl X "int") (hm : X.mg "int" = none) (he : PE X e te) (s : starEach [e] X.env = (false, eval e X.env) :: starEach [] X.env := by rfl) : PE X (.Call (.Name "int" p) [e] [] pos) (tInt te) :=
  pe_callTy call_int1 hg hm PyProof.Rows.boot_int (pa_cons he pa_nil s) (by decide) (by decide) s rfl
/-- the body's meaning, row by row -/
def tAny (K : PySem.W.Frag) : TS :=
  tSeq (tWhile (tAnd (tSome K) (tZero K)) (tSeq (tDrop (tPop0 K)) tNext)) (tSeq (tIfS (tSome K)
    (tSeq (tAsg (tInt (tPop0 K)) (gName 2)) (tSeq (tDrop (tApp0 K (tDivW (tVar 2) (tVar 1)))) (tSeq (tRet (tModW (tVar 2) (tVar 1))) tNext))) tNext)
    (tSeq (tAsg (tModW (tInt (tAddI (tMulW (tOp (rIxL K) (tVar 0) (tC (.int 1))) (tC (.int 40693))) (tC (.int 71)))) (tC (.int 2147483647))) (gSub (tVar 0) (tC (.int 1)) rSetL))
      (tSeq (tRet (tModW (tInt (tDivW (tOp (rIxL K) (tVar 0) (tC (.int 1))) (tC (.int 64)))) (tVar 1))) tNext)))
end
theorem strip0_cons {x : Int} {xs : List Int} (h : x ≠ 0) : strip0 (x :: xs) = x :: xs := by simp [strip0, h]
theorem strip0_zero {xs : List Int} : strip0 (0 :: xs) = strip0 xs := by simp [strip0]
theorem small_mul {s : Int} (h : 0 ≤ s ∧ s < 2147483647) : CMulW s 40693 := by
  unfold CMulW
  have h1 : s.natAbs < 2 ^ 31 := by have := h.1; have := h.2; omega
  by_cases z : s.natAbs = 0
  · rw [z]; decide
  · have := (Nat.log2_lt z).mpr h1
    have e : ((40693 : Int).natAbs).log2 ≤ 15 := by decide
    omega
theorem any_body {K : PySem.W.Frag} {H : Hp} {a c : Addr} {n b : Int} {xs : List Int} (d : Dl H a c n xs) (hb : 0 < b ∧ b.natAbs.log2 < 9000) (hn : 0 ≤ n ∧ n < 2147483647) (hl : xs.length ≤ 1000) (Q : VK) (N : L2.St → Hp → Prop)
    (q : ∀ H', Els H H' a c → (∀ b o, H b = some o → ∃ o', H' b = some o') → Dl H' a c (anyR xs.reverse n b).2.2 (anyR xs.reverse n b).2.1.reverse → Q (.int (anyR xs.reverse n b).1) H') :
    tAny K ⟨N, Q, fun _ _ => False, fun _ _ => False⟩ [some (.ref a), some (.int b), none] H := by
  have there : ∀ {H' : Hp}, Els H H' a c → (∃ n ys, Dl H' a c n ys) → ∀ b o, H b = some o → ∃ o', H' b = some o' := fun e ⟨_, _, d'⟩ b o h => by
    by_cases e1 : b = a
    · rw [e1]; exact ⟨_, d'.ha⟩
    · by_cases e2 : b = c
      · rw [e2]; exact ⟨_, d'.hc⟩
      · exact ⟨_, e b o e1 e2 h⟩
  -- the loop
  refine ⟨fun m σ' H' => ∃ ys, σ' = [some (.ref a), some (.int b), none] ∧ m = ys.length ∧ Els H H' a c ∧ Dl H' a c n ys ∧ ys.length ≤ 1000 ∧ strip0 ys.reverse = strip0 xs.reverse, ⟨_, xs, rfl, rfl, Els.refl, d, hl, rfl⟩, ?_⟩
  rintro m σ' H' ⟨ys, rfl, rfl, el, dl, ly, sy⟩
  refine rdSome dl rfl fun p1 hp1 => ?_
  have dl1 := dl.new (o := .lst []) hp1
  have el1 := el.new (o := .lst []) hp1
  -- behind the loop
  have rest : ∀ {H1 : Hp} {zs : List Int}, Els H H1 a c → Dl H1 a c n zs → zs.length ≤ 1000 → strip0 xs.reverse = zs.reverse →
      (tSeq (tIfS (tSome K) (tSeq (tAsg (tInt (tPop0 K)) (gName 2)) (tSeq (tDrop (tApp0 K (tDivW (tVar 2) (tVar 1)))) (tSeq (tRet (tModW (tVar 2) (tVar 1))) tNext))) tNext)
        (tSeq (tAsg (tModW (tInt (tAddI (tMulW (tOp (rIxL K) (tVar 0) (tC (.int 1))) (tC (.int 40693))) (tC (.int 71)))) (tC (.int 2147483647))) (gSub (tVar 0) (tC (.int 1)) rSetL))
          (tSeq (tRet (tModW (tInt (tDivW (tOp (rIxL K) (tVar 0) (tC (.int 1))) (tC (.int 64)))) (tVar 1))) tNext))) ⟨N, Q, fun _ _ => False, fun _ _ => False⟩ [some (.ref a), some (.int b), none] H1 := fun {H1 zs} el2 dl2 lz sz => by
    refine rdSome dl2 rfl fun p2 hp2 => ?_
    have dl3 := dl2.new (o := .lst []) hp2
    have el3 := el2.new (o := .lst []) hp2
    cases hz : zs.reverse with
    | nil =>
      have ez : zs = [] := by simpa using hz
      subst ez
      rw [hz] at sz
      refine pickF rfl ?_
      have ea : anyR xs.reverse n b = (((n * 40693 + 71) % 2147483647 / 64) % b, [], (n * 40693 + 71) % 2147483647) := by unfold anyR; rw [sz]
      rw [ea] at q
      refine rd1 dl3 rfl ⟨n, 40693, rfl, rfl, small_mul hn, n * 40693, 71, rfl, rfl, .inl ⟨_, rfl, n * 40693 + 71, 2147483647, rfl, rfl, (by decide : (0 : Int) < 2147483647), .ref a, rfl, a, _, 1, 1, rfl, rfl, dl3.ha, rfl, ?_⟩⟩
      have dl4 := dl3.seed (m := (n * 40693 + 71) % 2147483647)
      have el4 := el3.seed (o := .lst [.ref c, .int ((n * 40693 + 71) % 2147483647)])
      refine rd1 dl4 rfl ⟨_, 64, rfl, rfl, by unfold CDivW; decide, .inl ⟨_, rfl, _, rfl, _, _, rfl, rfl, hb.1, ?_⟩⟩
      exact q _ el4 (there el4 ⟨_, _, dl4⟩) dl4
    | cons x r =>
      have nz : zs.isEmpty = false := by
        cases zs with
        | nil => simp at hz
        | cons _ _ => rfl
      rw [nz]
      refine pickT rfl ?_
      rw [hz] at sz
      have ea : anyR xs.reverse n b = (x % b, (x / b) :: r, n) := by unfold anyR; rw [sz]
      rw [ea] at q
      refine rdPop dl3 rfl hz (.inl ⟨x, rfl, ?_⟩)
      have dl4 := dl3.cells (ys := r.reverse)
      have el4 := el3.cells (o := .lst (r.reverse.map V.int))
      have lr : r.length < 1000 := by
        have := congrArg List.length hz
        simp at this
        omega
      refine rd0 dl4 rfl ⟨.inl ⟨rfl, _, SqL.of dl4.hc⟩, .int x, rfl, .int b, rfl, x, b, rfl, rfl, ⟨hb.1, hb.2⟩, c, _, .int (x / b), rfl, rfl, dl4.hc, by rw [List.length_map, List.length_reverse, sizeLine_eq]; omega, ?_⟩
      have e2 : r.reverse.map V.int ++ [V.int (x / b)] = (((x / b) :: r).reverse).map V.int := by simp
      rw [e2]
      have dl5 := dl4.cells (ys := ((x / b) :: r).reverse)
      have el5 := el4.cells (o := .lst ((((x / b) :: r).reverse).map V.int))
      exact ⟨.int x, rfl, .int b, rfl, x, b, rfl, rfl, hb.1, q _ el5 (there el5 ⟨_, _, dl5⟩) dl5⟩
  cases hy : ys.reverse with
  | nil =>
    have ez : ys = [] := by simpa using hy
    subst ez
    rw [hy] at sy
    exact pickF rfl (pickF rfl (rest el1 dl1 ly (by rw [← sy]; rfl)))
  | cons x r =>
    have nz : ys.isEmpty = false := by
      cases ys with
      | nil => simp at hy
      | cons _ _ => rfl
    rw [nz]
    refine pickT rfl (rdZero dl1 rfl hy ?_)
    rw [hy] at sy
    by_cases x0 : x = 0
    · subst x0
      refine pickT (by decide) ⟨fun σ' H' => ∃ ys', σ' = [some (.ref a), some (.int b), none] ∧ ys'.length < ys.length ∧ Els H H' a c ∧ Dl H' a c n ys' ∧ ys'.length ≤ 1000 ∧ strip0 ys'.reverse = strip0 xs.reverse, fun σ' H' ⟨ys', e1, e2, e3, e4, e5, e6⟩ => ⟨_, e2, ys', e1, rfl, e3, e4, e5, e6⟩, ?_⟩
      refine rdPop dl1 rfl hy ⟨r.reverse, rfl, ?_, el1.cells, dl1.cells, ?_, ?_⟩
      · have := congrArg List.length hy
        simp at this ⊢
        omega
      · have := congrArg List.length hy
        simp at this ⊢
        omega
      · rw [List.reverse_reverse, ← sy, strip0_zero]
    · refine pickF (by simpa using x0) (rest el1 dl1 ly ?_)
      rw [← sy, strip0_cons x0, hy]

section
variable {P : Program} {w : World} {K : PySem.W.Frag} {mg : Str → Option Value} {base : Heap} {k : Nat} {f : Addr} {fd : FuncData} {cl : Nat → Addr}
theorem any_len {vs : List V} {H : Hp} {Q : VK} {E : XK} (h : spM cl anyF vs H Q E) : ∃ F0 ms Os u xs seed b c, ms = [.deal true (c, xs) seed, .val (.int b)] ∧ vs = [.ref u, .int b] ∧ Le F0 H ∧ RAs F0 H ms vs Os ∧ Dl H u c seed xs ∧ F0 u = none ∧ F0 c = none ∧ Os = [[u, c], []] ∧
    (0 < b ∧ b.natAbs.log2 < 9000) ∧ (0 ≤ seed ∧ seed < 2147483647) ∧ xs.length ≤ 1000 ∧
    ∀ v F' H' Os' t, Step F0 H Os.flatten F' H' Os'.flatten → Le F' H' → RAs F' H' [.deal true (c, (anyR xs.reverse seed b).2.1.reverse) (anyR xs.reverse seed b).2.2, .val (.int b)] vs Os' → Os'.flatten.Nodup → RM F' H' 0 0 (.val (.int (anyR xs.reverse seed b).1)) v t → Fresh H Os'.flatten t → Q v H' := by
  obtain ⟨F0, ms, Os, le, ras, nd, lo, w0⟩ := h
  have key : ∃ c xs seed b, ms = [.deal true (c, xs) seed, .val (.int b)] ∧ (0 < b ∧ b.natAbs.log2 < 9000) ∧ (0 ≤ seed ∧ seed < 2147483647) ∧ xs.length ≤ 1000 := by
    refine Classical.byContradiction fun no => ?_
    have st : anyF ms = .stuck := by
      unfold anyF
      split
      · rename_i big seed b
        by_cases g : (0 < b ∧ b.natAbs.log2 < 9000) ∧ (0 ≤ seed ∧ seed < 2147483647) ∧ big.2.length ≤ 1000
        · exact absurd ⟨big.1, big.2, seed, b, rfl, g.1, g.2.1, g.2.2⟩ no
        · rw [if_neg g]
      · rfl
    rw [st] at w0
    exact w0
  obtain ⟨c, xs, seed, b, rfl, g1, g2, g3⟩ := key
  obtain ⟨v0, r0, x0, y0, rfl, e0, m0, t0⟩ := ras
  obtain ⟨v1, r1, x1, y1, rfl, e1, m1, t1⟩ := t0
  obtain ⟨rfl, rfl⟩ := t1
  obtain ⟨u, c', rfl, rfl, h1, h2, h3, h4, h5⟩ := m0
  obtain ⟨rfl, rp⟩ := m1
  have e2 : v1 = .int b := by simpa [Rep] using rp
  subst e2
  dsimp only at h5 h2
  subst h5
  subst e1
  subst e0
  have ne : u ≠ c' := fun e => by
    subst e
    simp at nd
  refine ⟨F0, _, _, u, xs, seed, b, c', rfl, rfl, le, ⟨_, _, _, _, rfl, rfl, ⟨u, c', rfl, rfl, h1, h2, h3, h4, rfl⟩, _, _, _, _, rfl, rfl, ⟨rfl, rp⟩, rfl, rfl⟩, ⟨h1, h2, ne⟩, h3, h4, rfl, g1, g2, g3, ?_⟩
  unfold anyF at w0
  dsimp only at w0
  rw [if_pos ⟨g1, g2, g3⟩] at w0
  exact w0.2
theorem any_ok {x qual : Str} {st : Stmt} (F : FunX K x qual st f fd) (S : FnScope ["deal", "bound", "rest"] ["deal", "bound"] (defScope st))
    (body : ∀ (cd : Value) (A : Around) (outer : List PySem.Env) (s : Shared) (H : Hp) (E : XK), Room k (A.deeper (envOfC qual (defScope st) s.heap.objs.size f cd)) → A.guards = some [] →
      PSs (cxOf (L2.CX P w) P w K mg base ["deal", "bound", "rest"] qual (defScope st) f cd A outer s H E) (defBody st) (tAny K)) : FnG P w K mg base (k + 1) f fd ["deal", "bound"] (spM cl anyF) := by
  refine fnG_mk F S (fun vs H Q E h => ?_) fun cd A outer s H vs Q E room g h => ⟨_, body cd A outer s H E room g, ?_⟩
  · obtain ⟨_, _, _, _, _, _, _, _, _, e, _⟩ := any_len h
    rw [e]; rfl
  · obtain ⟨F0, ms, Os, u, xs, seed, b, c, rfl, rfl, le, ras, d, f1, f2, rfl, g1, g2, g3, k⟩ := any_len h
    refine any_body d g1 g2 g3 _ _ fun H' el th d' => ?_
    refine k (.int _) F0 H' [[u, c], []] [] ⟨Le.refl _, fun b o h n => el b o (fun e => n (by simp [e])) (fun e => n (by simp [e])) h, fun b o h => .inl h, fun b h => .inl h, th⟩ (fun b o h => el b o (fun e => by rw [e, f1] at h; cases h) (fun e => by rw [e, f2] at h; cases h) (le b o h)) ?_ ?_ ⟨rfl, by simp [Rep]⟩ (Fresh.nil _ _)
    · exact ⟨_, _, _, _, rfl, rfl, ⟨u, c, rfl, rfl, d'.ha, d'.hc, f1, f2, rfl⟩, _, _, _, _, rfl, rfl, ⟨rfl, by simp [Rep]⟩, rfl, rfl⟩
    · have := d.ne
      simp [this]
end
end Rx

/-! RxDen -/
/-! RxDen: meanings computed: turns of walks, comprehensions, loops. -/
set_option linter.all false
set_option Elab.async false
set_option maxRecDepth 100000
set_option maxHeartbeats 4000000
namespace Rx
section
variable {r : Fs}
/-- how often a walk turns, told ahead -/
theorem drop_at {α : Type} {xs : List α} {k : Nat} {x : α} (h : xs[k]? = some x) : xs.drop k = x :: xs.drop (k + 1) := by
  obtain ⟨hk, e⟩ := List.getElem?_eq_some_iff.mp h
  rw [← e]
  exact List.drop_eq_getElem_cons hk
theorem drop_end {α : Type} {xs : List α} {k : Nat} (h : xs[k]? = none) : xs.drop k = [] := List.drop_eq_nil_of_le (List.getElem?_eq_none_iff.mp h)
/-- a comprehension that asks p and tells g -/
theorem compF_fm {t : T} {own : List Nat} {w : W} {fc fe : Env → R (Q × Env)} {e0 : Env} {ds : List D} {p : D → Bool} {g : D → D} {put1 : D → Env} (hw : ∀ k, w.at e0 k = some ds[k]?) (hp : ∀ d ∈ ds, t.put (some (.val d)) e0 = some (put1 d))
    (hc : ∀ d ∈ ds, fc (put1 d) = .ok (.mv (.val (.bl (p d))), put1 d)) (he : ∀ d ∈ ds, p d = true → ∃ q, fe (put1 d) = .ok (q, put1 d) ∧ q.keep = some (g d)) (hx : ∀ d ∈ ds, wipe (put1 d) own = e0) :
    ∀ (n k : Nat) (acc : List D), k ≤ ds.length → ds.length < k + n → acc.length + (ds.length - k) ≤ maxLen → compF t own w fc fe n k acc e0 = .ok (acc ++ ((ds.drop k).filter p).map g, e0)
  | 0, k, acc, h0, h, _ => by omega
  | n + 1, k, acc, h0, h, ha => by
    rw [compF, hw]
    cases e : ds[k]? with
    | none => simp [drop_end e]
    | some d =>
      have hk : k < ds.length := (List.getElem?_eq_some_iff.mp e).1
      have hd : d ∈ ds := List.mem_of_getElem? e
      dsimp only
      rw [hp d hd]
      dsimp only
      rw [hc d hd]
      cases ep : p d with
      | true =>
        obtain ⟨q, e1, e2⟩ := he d hd ep
        dsimp only
        rw [e1]
        dsimp only
        rw [e2]
        dsimp only
        rw [if_pos (by omega), hx d hd, compF_fm hw hp hc he hx n (k + 1) _ (by omega) (by omega) (by rw [List.length_append]; simp; omega), drop_at e, List.filter_cons_of_pos (by simpa using ep)]
        simp
      | false =>
        dsimp only
        rw [hx d hd, compF_fm hw hp hc he hx n (k + 1) _ (by omega) (by omega) (by omega), drop_at e, List.filter_cons_of_neg (by simp [ep])]
/-- a for whose body goes on -/
theorem forF_fold {t : T} {w : W} {fb : Env → O} {ds : List D} {I : Nat → Env → Prop} (hw : ∀ k e, I k e → w.at e k = some ds[k]?)
    (step : ∀ k e d, I k e → ds[k]? = some d → ∃ e1 e2, t.put (some (.val d)) e = some e1 ∧ fb e1 = .nx e2 ∧ I (k + 1) e2) :
    ∀ (n k : Nat) (e : Env), I k e → k ≤ ds.length → ds.length < k + n → ∃ e', forF t w fb n k e = .nx e' ∧ I ds.length e'
  | 0, k, e, _, h1, h2 => by omega
  | n + 1, k, e, i, h1, h2 => by
    rw [forF, hw k e i]
    cases ek : ds[k]? with
    | none =>
      have : ds.length ≤ k := List.getElem?_eq_none_iff.mp ek
      have : k = ds.length := by omega
      subst this
      exact ⟨e, rfl, i⟩
    | some d =>
      have hk : k < ds.length := (List.getElem?_eq_some_iff.mp ek).1
      obtain ⟨e1, e2, a1, a2, a3⟩ := step k e d i ek
      dsimp only
      rw [a1]
      dsimp only
      rw [a2]
      exact forF_fold hw step n (k + 1) e2 a3 (by omega) (by omega)
end
end Rx

/-! RxEv -/
/-! RxEv: the way in which meanings are computed: lemmas for simp, one for each node. -/
set_option linter.all false
set_option Elab.async false
set_option maxRecDepth 100000
set_option maxHeartbeats 4000000
namespace Rx
/-! ### slots of an environment written out -/
theorem slot_z {o : Option M} {env : Env} : slot 0 (o :: env) = o := by cases o <;> rfl
theorem slot_s {o : Option M} {env : Env} {i : Nat} : slot (i + 1) (o :: env) = slot i env := by simp [slot]
theorem slot_1 {a o : Option M} {env : Env} : slot 1 (a :: o :: env) = o := by rw [slot_s, slot_z]
theorem slot_2 {a b o : Option M} {env : Env} : slot 2 (a :: b :: o :: env) = o := by rw [slot_s, slot_1]
theorem slot_3 {a b c o : Option M} {env : Env} : slot 3 (a :: b :: c :: o :: env) = o := by rw [slot_s, slot_2]
theorem slot_4 {a b c d o : Option M} {env : Env} : slot 4 (a :: b :: c :: d :: o :: env) = o := by rw [slot_s, slot_3]
theorem slot_5 {a b c d e o : Option M} {env : Env} : slot 5 (a :: b :: c :: d :: e :: o :: env) = o := by rw [slot_s, slot_4]
theorem slot_6 {a b c d e f o : Option M} {env : Env} : slot 6 (a :: b :: c :: d :: e :: f :: o :: env) = o := by rw [slot_s, slot_5]
theorem slot_7 {a b c d e f g o : Option M} {env : Env} : slot 7 (a :: b :: c :: d :: e :: f :: g :: o :: env) = o := by rw [slot_s, slot_6]
theorem slot_8 {a b c d e f g h o : Option M} {env : Env} : slot 8 (a :: b :: c :: d :: e :: f :: g :: h :: o :: env) = o := by rw [slot_s, slot_7]
theorem slot_9 {a b c d e f g h i o : Option M} {env : Env} : slot 9 (a :: b :: c :: d :: e :: f :: g :: h :: i :: o :: env) = o := by rw [slot_s, slot_8]
theorem slot_10 {a b c d e f g h i j o : Option M} {env : Env} : slot 10 (a :: b :: c :: d :: e :: f :: g :: h :: i :: j :: o :: env) = o := by rw [slot_s, slot_9]
theorem slot_11 {a b c d e f g h i j k o : Option M} {env : Env} : slot 11 (a :: b :: c :: d :: e :: f :: g :: h :: i :: j :: k :: o :: env) = o := by rw [slot_s, slot_10]
theorem slot_12 {a b c d e f g h i j k l o : Option M} {env : Env} : slot 12 (a :: b :: c :: d :: e :: f :: g :: h :: i :: j :: k :: l :: o :: env) = o := by rw [slot_s, slot_11]
section
variable {r : Fs} {env : Env}
/-! ### expressions as values -/
theorem q_var (i : Nat) : denG r (.var i) false env = (match slot i env with
    | some (.val d) => .ok (.mv (.val d), env)
    | some (.own _ _) => .ok (.ref i, env)
    | some (.deal _ _ _) => .ok (.ref i, env)
    | _ => .stuck) := rfl
theorem q_frz (i : Nat) : denG r (.frz i) false env = (match slot i env with
    | some (.val d) => .ok (.mv (.val d), env)
    | some (.own false xs) => .ok (.mv (.val (.lst xs)), env.set i (some (.val (.lst xs))))
    | _ => .stuck) := rfl
theorem q_cst (d : D) : denG r (.cst d) false env = .ok (.mv (.val d), env) := rfl
theorem q_op (o : Op) (es : Es) : denG r (.op o es) false env = ((denEs r es env).bind fun p => match gets p.2 p.1 with
    | some ds => match evalOp o ds with
      | some z => .ok (.mv z.m, p.2)
      | none => .stuck
    | none => .stuck) := rfl
theorem q_call (f : Nat) (es : Es) : denG r (.call f es) false env = ((denEs r es env).bind fun p => callF r f p.1 p.2) := rfl
theorem q_callK (f : Nat) (ks : List Nat) (es : Es) : denG r (.callK f ks es) false env = ((denKs r es env).bind fun p => callF r f ((order D.non ks p.1).map asQ) p.2) := rfl
theorem q_tup (es : Es) : denG r (.tup es) false env = ((denKs r es env).bind fun p => if p.1.length ≤ maxLen then .ok (.mv (.val (.tup p.1)), p.2) else .stuck) := rfl
theorem q_lst (es : Es) : denG r (.lst es) false env = ((denKs r es env).bind fun p => if p.1.length ≤ maxLen then .ok (.mv (.own false p.1), p.2) else .stuck) := rfl
theorem q_ite (c a b : E) : denG r (.ite c a b) false env = (denT r c env).bind fun p => if p.1 then denG r a false p.2 else denG r b false p.2 := denE_ite r c a b env
theorem q_and (a b : E) : denG r (.and a b) false env = ((denG r a false env).bind fun p => match p.1 with
    | .mv (.val (.bl true)) => denG r b false p.2
    | .mv (.val (.bl false)) => .ok (.mv (.val (.bl false)), p.2)
    | _ => .stuck) := rfl
theorem q_or (a b : E) : denG r (.or a b) false env = ((denG r a false env).bind fun p => match p.1 with
    | .mv (.val (.bl false)) => denG r b false p.2
    | .mv (.val (.bl true)) => .ok (.mv (.val (.bl true)), p.2)
    | _ => .stuck) := rfl
theorem q_not (a : E) : denG r (.not a) false env = ((denG r a false env).bind fun p => match p.1 with
    | .mv (.val (.bl k)) => .ok (.mv (.val (.bl (!k))), p.2)
    | _ => .stuck) := rfl
theorem q_chain (o p : Op) (a b c : E) : denG r (.chain o p a b c) false env = ((denG r a false env).bind fun x => (denG r b false x.2).bind fun y => match x.1.get y.2, y.1.get y.2 with
    | some dx, some dy => match evalOp o [dx, dy] with
      | some (.val (.bl true)) => (denG r c false y.2).bind fun z => match y.1.get z.2, z.1.get z.2 with
        | some dy', some dz => match evalOp p [dy', dz] with
          | some (.val (.bl k)) => .ok (.mv (.val (.bl k)), z.2)
          | _ => .stuck
        | _, _ => .stuck
      | some (.val (.bl false)) => .ok (.mv (.val (.bl false)), y.2)
      | _ => .stuck
    | _, _ => .stuck) := rfl
theorem q_pop (i : Nat) : denG r (.pop i) false env = (match slot i env with
    | some (.own io xs) => match xs.getLast? with
      | some d => .ok (.mv (.val d), env.set i (some (.own io xs.dropLast)))
      | none => .stuck
    | _ => .stuck) := rfl
theorem q_exAt (i : Nat) : denG r (.exAt i) false env = (match slot i env with
    | some (.ex _ d) => .ok (.mv (.val d), env)
    | _ => .stuck) := rfl
theorem q_eqR (k : Bool) (a b : E) : denG r (.eqR k a b) false env = ((denG r a false env).bind fun x => match x.1.keep with
    | some d => if d.showOk then (denG r b false x.2).bind fun y => match y.1.keep with
      | some e => if d.same e then .ok (.mv (.val (.bl k)), y.2) else .stuck
      | none => .stuck
      else .stuck
    | none => .stuck) := rfl
theorem q_comp (tg : T) (own : List Nat) (it : I) (c : C) (e : E) : denG r (.comp tg own it c e) false env = ((denI r it env).bind fun w =>
      if clear w.2 own then
        (match compF tg own w.1 (denC r c) (denG r e false) (w.1.len w.2 + 1) 0 [] (wipe w.2 own) with
          | .ok (ds, env2) => .ok (.mv (.own false ds), back w.2 env2 own)
          | _ => .stuck)
      else .stuck) := rfl
theorem es_nil : denEs r .nil env = .ok ([], env) := by first | (rw [denEs]; done) | (rw [denEs]; rfl)
theorem es_cons (e : E) (es : Es) : denEs r (.cons e es) env = (denG r e false env).bind fun p => (denEs r es p.2).bind fun ps => .ok (p.1 :: ps.1, ps.2) := by first | (rw [denEs]; done) | (rw [denEs]; rfl)
theorem ks_nil : denKs r .nil env = .ok ([], env) := by first | (rw [denKs]; done) | (rw [denKs]; rfl)
theorem ks_cons (e : E) (es : Es) : denKs r (.cons e es) env = (denG r e false env).bind fun p => match p.1.keep with
    | some d => (denKs r es p.2).bind fun ps => .ok (d :: ps.1, ps.2)
    | none => .stuck := by first | (rw [denKs]; done) | (rw [denKs]; rfl)
/-! ### tests -/
theorem t_and (a b : E) : denT r (.and a b) env = (denT r a env).bind fun p => if p.1 then denT r b p.2 else .ok (false, p.2) := denT_and r a b env
theorem t_or (a b : E) : denT r (.or a b) env = (denT r a env).bind fun p => if p.1 then .ok (true, p.2) else denT r b p.2 := denT_or r a b env
theorem t_not (a : E) : denT r (.not a) env = (denT r a env).bind fun p => .ok (!p.1, p.2) := denT_not r a env
theorem t_op (o : Op) (es : Es) : denT r (.op o es) env = test1 (denG r (.op o es) false env) := denT_plain r rfl env
theorem t_var (i : Nat) : denT r (.var i) env = test1 (denG r (.var i) false env) := denT_plain r rfl env
theorem t_call (f : Nat) (es : Es) : denT r (.call f es) env = test1 (denG r (.call f es) false env) := denT_plain r rfl env
theorem t_callK (f : Nat) (ks : List Nat) (es : Es) : denT r (.callK f ks es) env = test1 (denG r (.callK f ks es) false env) := denT_plain r rfl env
theorem t_chain (o p : Op) (a b c : E) : denT r (.chain o p a b c) env = test1 (denG r (.chain o p a b c) false env) := denT_plain r rfl env
theorem t_eqR (k : Bool) (a b : E) : denT r (.eqR k a b) env = test1 (denG r (.eqR k a b) false env) := denT_plain r rfl env
theorem t_cst (d : D) : denT r (.cst d) env = test1 (denG r (.cst d) false env) := denT_plain r rfl env
theorem c_yes : denC r .yes env = .ok (.mv (.val (.bl true)), env) := by first | (rw [denC]; done) | (rw [denC]; rfl)
theorem c_one (e : E) : denC r (.one e) env = (denT r e env).bind fun p => .ok (.mv (.val (.bl p.1)), p.2) := by rw [denC, denG_T]
/-! ### the plumbing -/
theorem b_ok {α β : Type} (a : α) (k : α → R β) : (R.ok a).bind k = k a := rfl
theorem b_exc {α β : Type} (c : Nat) (d : D) (e : Env) (k : α → R β) : (R.exc c d e : R α).bind k = .exc c d e := rfl
theorem o_ok {α : Type} (a : α) (k : α → O) : (R.ok a).o k = k a := rfl
theorem o_exc {α : Type} (c : Nat) (d : D) (e : Env) (k : α → O) : (R.exc c d e : R α).o k = .exc c d e := rfl
theorem of_some (e : Env) : O.of (some e) = .nx e := rfl
theorem g_val (d : D) : Q.get env (.mv (.val d)) = some d := rfl
theorem g_new (io : Bool) (xs : List D) : Q.get env (.mv (.own io xs)) = some (.lst xs) := rfl
theorem g_ref (i : Nat) : Q.get env (.ref i) = (match slot i env with
    | some (.own _ xs) => some (.lst xs)
    | _ => none) := rfl
theorem gs_nil : gets env [] = some [] := rfl
theorem gs_cons (q : Q) (qs : List Q) : gets env (q :: qs) = (match q.get env, gets env qs with
    | some d, some ds => some (d :: ds)
    | _, _ => none) := rfl
theorem k_val (d : D) : (Q.mv (.val d)).keep = some d := rfl
theorem k_new (xs : List D) : (Q.mv (.own false xs)).keep = some (.lst xs) := rfl
theorem tk_val (d : D) : (Q.mv (.val d)).take = some (.val d) := rfl
theorem tk_new (xs : List D) : (Q.mv (.own false xs)).take = some (.own false xs) := rfl
theorem tk_deal (b : Nat × List Int) (n : Int) : (Q.mv (.deal false b n)).take = some (.deal false b n) := rfl
theorem gv_val (d : D) : Q.give env (.mv (.val d)) = some (.val d, env) := rfl
theorem gv_new (xs : List D) : Q.give env (.mv (.own false xs)) = some (.own false xs, env) := rfl
theorem gv_ref (i : Nat) : Q.give env (.ref i) = (match slot i env with
    | some (.own false xs) => some (.own false xs, env.set i none)
    | some (.deal false b n) => some (.deal false b n, env.set i none)
    | _ => none) := rfl
theorem m_val (d : D) : (Z.val d).m = .val d := rfl
theorem m_new (xs : List D) : (Z.new xs).m = .own false xs := rfl
theorem p_nm (i : Nat) (m : M) : T.put (.nm i) (some m) env = put i m env := rfl
theorem p_tp (is : List Nat) (ds : List D) : T.put (.tp is) (some (.val (.tup ds))) env = putD is ds env := rfl
theorem p_tpp (i : Nat) (is : List Nat) (d : D) (ds : List D) : T.put (.tpp i is) (some (.val (.tup [d, .tup ds]))) env = (put i (.val d) env).bind (putD is ds) := rfl
theorem putD_nil : putD [] [] env = some env := rfl
theorem putD_cons (i : Nat) (is : List Nat) (d : D) (ds : List D) : putD (i :: is) (d :: ds) env = (put i (.val d) env).bind (putD is ds) := rfl
theorem putM_nil : putM [] [] env = some env := rfl
theorem putM_cons (i : Nat) (is : List Nat) (m : M) (ms : List M) : putM (i :: is) (m :: ms) env = (put i m env).bind (putM is ms) := rfl
theorem put_def (i : Nat) (m : M) : put i m env = if free i env then some (env.set i (some m)) else none := rfl
theorem free_def (i : Nat) : free i env = (match slot i env with
  | some (.own true _) => false
  | some (.deal true _ _) => false
  | _ => decide (i < env.length)) := rfl
theorem ts_nil : takes [] = some [] := rfl
theorem ts_cons (q : Q) (qs : List Q) : takes (q :: qs) = (match q.take, takes qs with
  | some m, some ms => some (m :: ms)
  | _, _ => none) := rfl
theorem t1_ok (q : Q) (e : Env) : test1 (.ok (q, e)) = (match q.get e with
  | some d => match truth d with
    | some k => .ok (k, e)
    | none => .stuck
  | none => .stuck) := rfl
theorem t1_exc (c : Nat) (d : D) (e : Env) : test1 (.exc c d e) = .exc c d e := rfl
theorem tr_bl (b : Bool) : truth (.bl b) = some b := rfl
theorem tr_non : truth .non = some false := rfl
/-! ### statements -/
theorem ss_nil : denSs r .nil env = .nx env := by first | (rw [denSs]; done) | (rw [denSs]; rfl)
theorem ss_cons (s : S) (ss : Ss) : denSs r (.cons s ss) env = (match denS r s env with
    | .nx e => denSs r ss e
    | o => o) := by first | (rw [denSs]; done) | (rw [denSs]; rfl)
theorem s_asg (t : T) (e : E) : denS r (.asg t e) env = (denG r e false env).o fun p => O.of (t.put p.1.take p.2) := by first | (rw [denS]; done) | (rw [denS]; rfl)
theorem s_par (is : List Nat) (es : Es) : denS r (.par is es) env = (denEs r es env).o fun p => (match takes p.1 with
    | some ms => O.of (putM is ms p.2)
    | none => .stuck) := by first | (rw [denS]; done) | (rw [denS]; rfl)
theorem s_aug (o : Op) (i : Nat) (e : E) : denS r (.aug o i e) env = (match slot i env with
    | some (.val (.int n)) => (denG r e false env).o fun p => match p.1.get p.2 with
      | some x => match evalOp o [.int n, x] with
        | some (.val z) => O.of (put i (.val z) p.2)
        | _ => .stuck
      | none => .stuck
    | _ => .stuck) := by first | (rw [denS]; done) | (rw [denS]; rfl)
theorem s_app (i : Nat) (e : E) : denS r (.app i e) env = (if isOwn i env then (denG r e false env).o fun p => match p.1.keep, slot i p.2 with
    | some d, some (.own io xs) => if xs.length < maxLen then .nx (p.2.set i (some (.own io (xs ++ [d])))) else .stuck
    | _, _ => .stuck
    else .stuck) := by first | (rw [denS]; done) | (rw [denS]; rfl)
theorem s_ext (i : Nat) (e : E) : denS r (.ext i e) env = (if isOwn i env then (denG r e false env).o fun p => match p.1.keep, slot i p.2 with
    | some (.lst ys), some (.own io xs) => if xs.length + ys.length ≤ maxLen then .nx (p.2.set i (some (.own io (xs ++ ys)))) else .stuck
    | _, _ => .stuck
    else .stuck) := by first | (rw [denS]; done) | (rw [denS]; rfl)
theorem s_pop (i : Nat) : denS r (.pop i) env = (denG r (.pop i) false env).o fun p => .nx p.2 := by first | (rw [denS]; done) | (rw [denS]; rfl)
theorem s_expr (e : E) : denS r (.expr e) env = (denG r e false env).o fun p => .nx p.2 := by first | (rw [denS]; done) | (rw [denS]; rfl)
theorem s_doc : denS r .doc env = .nx env := by first | (rw [denS]; done) | (rw [denS]; rfl)
theorem s_ret (e : E) : denS r (.ret e) env = (denG r e false env).o fun p => match p.1.give p.2 with
    | some (m, e2) => .rt m e2
    | none => .stuck := by first | (rw [denS]; done) | (rw [denS]; rfl)
theorem s_retN : denS r .retN env = .rt (.val .non) env := by first | (rw [denS]; done) | (rw [denS]; rfl)
theorem s_pass : denS r .pass env = .nx env := by first | (rw [denS]; done) | (rw [denS]; rfl)
theorem s_brk : denS r .brk env = .bk env := by first | (rw [denS]; done) | (rw [denS]; rfl)
theorem s_cnt : denS r .cnt env = .ct env := by first | (rw [denS]; done) | (rw [denS]; rfl)
theorem s_ite (c : E) (a b : Ss) : denS r (.ite c a b) env = (denT r c env).o fun p => if p.1 then denSs r a p.2 else denSs r b p.2 := by first | (rw [denS]; done) | (rw [denS]; rfl)
theorem s_for (t : T) (it : I) (b : Ss) : denS r (.for_ t it b) env = (denI r it env).o fun p => forF t p.1 (denSs r b) (p.1.len p.2 + 1) 0 p.2 := by first | (rw [denS]; done) | (rw [denS]; rfl)
theorem s_raise (c : Nat) (e : E) : denS r (.raise c e) env = (denG r e false env).o fun p => match p.1.keep with
    | some d => .exc c d p.2
    | none => .stuck := by first | (rw [denS]; done) | (rw [denS]; rfl)
theorem s_setix (i : Nat) (ix e : E) : denS r (.setix i ix e) env = (denG r e false env).o fun p => match p.1.keep with
    | some d => if isOwn i p.2 then (denG r ix false p.2).o fun y => match y.1.get y.2, slot i y.2 with
      | some (.int k), some (.own io xs) => match place xs.length k with
        | some j => .nx (y.2.set i (some (.own io (xs.set j d))))
        | none => .stuck
      | _, _ => .stuck
      else .stuck
    | none => .stuck := by first | (rw [denS]; done) | (rw [denS]; rfl)
theorem s_ins (i : Nat) (k e : E) : denS r (.ins i k e) env = (if isOwn i env then (denG r k false env).o fun p => (denG r e false p.2).o fun y => match p.1.get y.2, y.1.keep, slot i y.2 with
    | some (.int n), some d, some (.own io xs) => if xs.length < maxLen ∧ 0 ≤ n ∧ n ≤ xs.length then .nx (y.2.set i (some (.own io (xs.take n.toNat ++ [d] ++ xs.drop n.toNat)))) else .stuck
    | _, _, _ => .stuck
    else .stuck) := by first | (rw [denS]; done) | (rw [denS]; rfl)
theorem s_try (b : Ss) (h : Hd) : denS r (.try_ b h) env = (match denSs r b env with
    | .exc k d e1 => denH r h k d e1
    | o => o) := by first | (rw [denS]; done) | (rw [denS]; rfl)
/-! ### walks -/
theorem i_seq (e : E) : denI r (.seq e) env = (denG r e false env).bind fun p => match p.1 with
    | .ref i => match slot i p.2 with
      | some (.own true _) => .ok (.own i, p.2)
      | some (.own false xs) => .ok (.vs xs, p.2.set i (some (.val (.lst xs))))
      | _ => .stuck
    | q => match q.keep with
      | some d => match isSeq d with
        | some ds => .ok (.vs ds, p.2)
        | none => .stuck
      | none => .stuck := by first | (rw [denI]; done) | (rw [denI]; rfl)
theorem i_rg1 (e : E) : denI r (.rg1 e) env = (denG r e false env).bind fun p => match p.1.get p.2 with
    | some (.int n) => if -(2 ^ 60) ≤ n ∧ n ≤ 2 ^ 60 then .ok (.vs (rangeC 0 1 n.toNat), p.2) else .stuck
    | _ => .stuck := by first | (rw [denI]; done) | (rw [denI]; rfl)
theorem i_rg2 (a b : E) : denI r (.rg2 a b) env = (denG r a false env).bind fun x => (denG r b false x.2).bind fun y => match x.1.get y.2, y.1.get y.2 with
    | some (.int i), some (.int j) => if -(2 ^ 60) ≤ i ∧ i ≤ 2 ^ 60 ∧ -(2 ^ 60) ≤ j ∧ j ≤ 2 ^ 60 then .ok (.vs (rangeC i 1 (j - i).toNat), y.2) else .stuck
    | _, _ => .stuck := by first | (rw [denI]; done) | (rw [denI]; rfl)
theorem i_enum (e : E) : denI r (.enum e) env = (denG r e false env).bind fun p => match p.1 with
    | .ref i => match slot i p.2 with
      | some (.own true _) => .ok (.enumOwn i, p.2)
      | some (.own false xs) => .ok (.vs (enumL 0 xs), p.2.set i (some (.val (.lst xs))))
      | _ => .stuck
    | q => match q.keep with
      | some d => match isSeq d with
        | some ds => .ok (.vs (enumL 0 ds), p.2)
        | none => .stuck
      | none => .stuck := by first | (rw [denI]; done) | (rw [denI]; rfl)
theorem i_zip (a b : E) : denI r (.zip a b) env = (denG r a false env).bind fun x => match x.1.keep with
    | some dx => (denG r b false x.2).bind fun y => match y.1.keep with
      | some dy => match zip2 dx dy with
        | some ds => .ok (.vs ds, y.2)
        | none => .stuck
      | none => .stuck
    | none => .stuck := by first | (rw [denI]; done) | (rw [denI]; rfl)
theorem i_rev (e : E) : denI r (.rev e) env = (denG r e false env).bind fun p => match p.1.keep with
    | some d => match isSeq d with
      | some ds => .ok (.vs ds.reverse, p.2)
      | none => .stuck
    | none => .stuck := by first | (rw [denI]; done) | (rw [denI]; rfl)
theorem sq_lst (xs : List D) : isSeq (.lst xs) = some xs := rfl
theorem sq_tup (xs : List D) : isSeq (.tup xs) = some xs := rfl
theorem wl_vs (xs : List D) : W.len env (.vs xs) = xs.length := rfl
theorem wa_vs (xs : List D) (k : Nat) : W.at env k (.vs xs) = some xs[k]? := rfl
end
/-! ### operators -/
theorem v_add (i j : Int) : evalOp .add [.int i, .int j] = some (.val (.int (i + j))) := rfl
theorem v_addL (xs ys : List D) : evalOp .add [.lst xs, .lst ys] = if xs.length + ys.length ≤ maxLen then some (.new (xs ++ ys)) else none := rfl
theorem v_addT (xs ys : List D) : evalOp .add [.tup xs, .tup ys] = if xs.length + ys.length ≤ maxLen then some (.val (.tup (xs ++ ys))) else none := rfl
theorem v_sub (i j : Int) : evalOp .sub [.int i, .int j] = some (.val (.int (i - j))) := rfl
theorem v_mul (i j : Int) : evalOp .mul [.int i, .int j] = if i.natAbs.log2 + j.natAbs.log2 < 1000000 then some (.val (.int (i * j))) else none := rfl
theorem v_fdiv (i j : Int) : evalOp .fdiv [.int i, .int j] = if 0 < j ∧ j.natAbs.log2 < 9000 then some (.val (.int (i / j))) else none := rfl
theorem v_mod (i j : Int) : evalOp .mod [.int i, .int j] = if 0 < j then some (.val (.int (i % j))) else none := rfl
theorem v_pow (i j : Int) : evalOp .pow [.int i, .int j] = if 0 ≤ j ∧ j ≤ 1000 ∧ i.natAbs < 2 ^ 60 then some (.val (.int (i ^ j.toNat))) else none := rfl
theorem v_neg (i : Int) : evalOp .neg [.int i] = some (.val (.int (-i))) := rfl
theorem v_eq (d e : D) : evalOp .eq [d, e] = if d.flat 60 && e.flat 60 then some (.val (.bl (d.eqv e))) else none := rfl
theorem v_ne (d e : D) : evalOp .ne [d, e] = if d.flat 60 && e.flat 60 then some (.val (.bl (!d.eqv e))) else none := rfl
theorem v_lt (i j : Int) : evalOp .lt [.int i, .int j] = some (.val (.bl (decide (i < j)))) := rfl
theorem v_le (i j : Int) : evalOp .le [.int i, .int j] = some (.val (.bl (decide (i ≤ j)))) := rfl
theorem v_gt (i j : Int) : evalOp .gt [.int i, .int j] = some (.val (.bl (decide (j < i)))) := rfl
theorem v_ge (i j : Int) : evalOp .ge [.int i, .int j] = some (.val (.bl (decide (j ≤ i)))) := rfl
theorem v_isN (d : D) : evalOp .isN [d] = some (.val (.bl d.isNon)) := rfl
theorem v_notN (d : D) : evalOp .notN [d] = some (.val (.bl (!d.isNon))) := rfl
theorem v_isB (b c : Bool) : evalOp (.isB b) [.bl c] = some (.val (.bl (b == c))) := rfl
theorem v_notB (b c : Bool) : evalOp (.notB b) [.bl c] = some (.val (.bl (b != c))) := rfl
theorem v_ixL (xs : List D) (i : Int) : evalOp .ix [.lst xs, .int i] = ((place xs.length i).bind fun k => xs[k]?).map .val := rfl
theorem v_ixT (xs : List D) (i : Int) : evalOp .ix [.tup xs, .int i] = ((place xs.length i).bind fun k => xs[k]?).map .val := rfl
theorem v_sl10L (xs : List D) (a : Int) : evalOp (.sl true false) [.lst xs, .int a] = some (.new (cut xs (some a) none)) := rfl
theorem v_sl01L (xs : List D) (b : Int) : evalOp (.sl false true) [.lst xs, .int b] = some (.new (cut xs none (some b))) := rfl
theorem v_sl10T (xs : List D) (a : Int) : evalOp (.sl true false) [.tup xs, .int a] = some (.val (.tup (cut xs (some a) none))) := rfl
theorem v_sl01T (xs : List D) (b : Int) : evalOp (.sl false true) [.tup xs, .int b] = some (.val (.tup (cut xs none (some b)))) := rfl
theorem v_rev (xs : List D) : evalOp .rev [.lst xs] = some (.new xs.reverse) := rfl
theorem v_lenL (xs : List D) : evalOp .len [.lst xs] = some (.val (.int xs.length)) := rfl
theorem v_lenT (xs : List D) : evalOp .len [.tup xs] = some (.val (.int xs.length)) := rfl
theorem v_abs (i : Int) : evalOp .abs [.int i] = some (.val (.int (if i < 0 then -i else i))) := rfl
theorem v_int (i : Int) : evalOp .int [.int i] = some (.val (.int i)) := rfl
theorem v_listL (xs : List D) : evalOp .list [.lst xs] = some (.new xs) := rfl
theorem v_listT (xs : List D) : evalOp .list [.tup xs] = some (.new xs) := rfl
theorem v_tupleL (xs : List D) : evalOp .tuple [.lst xs] = some (.val (.tup xs)) := rfl
theorem v_tupleT (xs : List D) : evalOp .tuple [.tup xs] = some (.val (.tup xs)) := rfl
theorem v_sum (xs : List D) : evalOp .sum [.lst xs] = (ints? xs).map fun ns => .val (.int ns.sum) := rfl
theorem v_max2 (i j : Int) : evalOp .max2 [.int i, .int j] = some (.val (.int (if j > i then j else i))) := rfl
theorem v_min2 (i j : Int) : evalOp .min2 [.int i, .int j] = some (.val (.int (if j < i then j else i))) := rfl
theorem v_minl (xs : List D) : evalOp .minl [.lst xs] = (match ints? xs with | some (n :: ns) => some (.val (.int (least n ns))) | _ => none) := rfl
theorem v_all (xs : List D) : evalOp .all [.lst xs] = (bools? xs).map fun bs => .val (.bl (bs.all id)) := rfl
theorem v_any (xs : List D) : evalOp .any [.lst xs] = (bools? xs).map fun bs => .val (.bl (bs.any id)) := rfl
theorem v_sortset (xs : List D) : evalOp .sortset [.lst xs] = (match ints? xs with | some ns => if ns.length < 64 then some (.new ((sortU ns).map .int)) else none | none => none) := rfl
theorem v_isa (t : Ty) (d : D) : evalOp (.isa t) [d] = some (.val (.bl (isa d t))) := rfl
theorem v_rng (n : Int) : evalOp .rng [.int n] = if -(2 ^ 60) ≤ n ∧ n ≤ maxLen then some (.new (rangeL n.toNat)) else none := rfl
theorem isOwn_own {i : Nat} {env : Env} {io : Bool} {xs : List D} (h : slot i env = some (.own io xs)) : isOwn i env = true := by unfold isOwn; rw [h]
local macro_rules
  | `(tactic| simp!) => `(tactic| simp only [slot_z, slot_1, slot_2, slot_3, slot_4, slot_5, slot_6, slot_7, slot_8, slot_9, slot_10, slot_11, slot_12, q_var, q_frz, q_cst, q_op, q_call, q_callK, q_tup, q_lst, q_ite, q_and, q_or, q_not, q_chain, q_pop, q_exAt, es_nil, es_cons, ks_nil, ks_cons, t_and, t_or, t_not, t_op, t_var, t_call, t_callK, t_chain, t_cst, c_yes, c_one, b_ok, b_exc, o_ok, o_exc, of_some, g_val, g_new, g_ref, gs_nil, gs_cons, k_val, k_new, tk_val, tk_new, tk_deal, gv_val, gv_new, gv_ref, m_val, m_new, p_nm, p_tp, p_tpp, putD_nil, putD_cons, putM_nil, putM_cons, put_def, free_def, ts_nil, ts_cons, t1_ok, t1_exc, tr_bl, tr_non, ss_nil, ss_cons, s_asg, s_par, s_aug, s_app, s_ext, s_pop, s_expr, s_doc, s_ret, s_retN, s_pass, s_brk, s_cnt, s_ite, s_raise, s_setix, s_ins, i_seq, i_rg1, i_rg2, i_enum, i_zip, i_rev, sq_lst, sq_tup, wl_vs, v_add, v_sub, v_neg, v_lt, v_le, v_gt, v_ge, v_isN, v_notN, v_isB, v_notB, v_rev, v_lenL, v_lenT, v_abs, v_int, v_listL, v_listT, v_tupleL, v_tupleT, v_max2, v_min2, v_isa, Option.bind_some, List.set_cons_zero, List.set_cons_succ, List.length_cons, List.length_nil, if_true, if_false, reduceIte, Bool.false_eq_true, decide_true, decide_false, isOwn])
  | `(tactic| simp! [$ls,*]) => `(tactic| simp only [slot_z, slot_1, slot_2, slot_3, slot_4, slot_5, slot_6, slot_7, slot_8, slot_9, slot_10, slot_11, slot_12, q_var, q_frz, q_cst, q_op, q_call, q_callK, q_tup, q_lst, q_ite, q_and, q_or, q_not, q_chain, q_pop, q_exAt, es_nil, es_cons, ks_nil, ks_cons, t_and, t_or, t_not, t_op, t_var, t_call, t_callK, t_chain, t_cst, c_yes, c_one, b_ok, b_exc, o_ok, o_exc, of_some, g_val, g_new, g_ref, gs_nil, gs_cons, k_val, k_new, tk_val, tk_new, tk_deal, gv_val, gv_new, gv_ref, m_val, m_new, p_nm, p_tp, p_tpp, putD_nil, putD_cons, putM_nil, putM_cons, put_def, free_def, ts_nil, ts_cons, t1_ok, t1_exc, tr_bl, tr_non, ss_nil, ss_cons, s_asg, s_par, s_aug, s_app, s_ext, s_pop, s_expr, s_doc, s_ret, s_retN, s_pass, s_brk, s_cnt, s_ite, s_raise, s_setix, s_ins, i_seq, i_rg1, i_rg2, i_enum, i_zip, i_rev, sq_lst, sq_tup, wl_vs, v_add, v_sub, v_neg, v_lt, v_le, v_gt, v_ge, v_isN, v_notN, v_isB, v_notB, v_rev, v_lenL, v_lenT, v_abs, v_int, v_listL, v_listT, v_tupleL, v_tupleT, v_max2, v_min2, v_isa, Option.bind_some, List.set_cons_zero, List.set_cons_succ, List.length_cons, List.length_nil, if_true, if_false, reduceIte, Bool.false_eq_true, decide_true, decide_false, isOwn, $ls,*])
end Rx

/-! RxDraw -/
/-! RxDraw: the law's deal out of the script: _law_draw, and a law that begins with it. -/
set_option linter.all false
set_option Elab.async false
set_option maxRecDepth 100000
set_option maxHeartbeats 4000000
namespace Rx
open PySem PySem.Spec PyProof.Rows L2
local macro_rules
  | `(tactic| simp!) => `(tactic| simp only [slot_z, slot_1, slot_2, slot_3, slot_4, slot_5, slot_6, slot_7, slot_8, slot_9, slot_10, slot_11, slot_12, q_var, q_frz, q_cst, q_op, q_call, q_callK, q_tup, q_lst, q_ite, q_and, q_or, q_not, q_chain, q_pop, q_exAt, es_nil, es_cons, ks_nil, ks_cons, t_and, t_or, t_not, t_op, t_var, t_call, t_callK, t_chain, t_cst, c_yes, c_one, b_ok, b_exc, o_ok, o_exc, of_some, g_val, g_new, g_ref, gs_nil, gs_cons, k_val, k_new, tk_val, tk_new, tk_deal, gv_val, gv_new, gv_ref, m_val, m_new, p_nm, p_tp, p_tpp, putD_nil, putD_cons, putM_nil, putM_cons, put_def, free_def, ts_nil, ts_cons, t1_ok, t1_exc, tr_bl, tr_non, ss_nil, ss_cons, s_asg, s_par, s_aug, s_app, s_ext, s_pop, s_expr, s_doc, s_ret, s_retN, s_pass, s_brk, s_cnt, s_ite, s_raise, s_setix, s_ins, i_seq, i_rg1, i_rg2, i_enum, i_zip, i_rev, sq_lst, sq_tup, wl_vs, v_add, v_sub, v_neg, v_lt, v_le, v_gt, v_ge, v_isN, v_notN, v_isB, v_notB, v_rev, v_lenL, v_lenT, v_abs, v_int, v_listL, v_listT, v_tupleL, v_tupleT, v_max2, v_min2, v_isa, Option.bind_some, List.set_cons_zero, List.set_cons_succ, List.length_cons, List.length_nil, if_true, if_false, reduceIte, Bool.false_eq_true, decide_true, decide_false, isOwn])
  | `(tactic| simp! [$ls,*]) => `(tactic| simp only [slot_z, slot_1, slot_2, slot_3, slot_4, slot_5, slot_6, slot_7, slot_8, slot_9, slot_10, slot_11, slot_12, q_var, q_frz, q_cst, q_op, q_call, q_callK, q_tup, q_lst, q_ite, q_and, q_or, q_not, q_chain, q_pop, q_exAt, es_nil, es_cons, ks_nil, ks_cons, t_and, t_or, t_not, t_op, t_var, t_call, t_callK, t_chain, t_cst, c_yes, c_one, b_ok, b_exc, o_ok, o_exc, of_some, g_val, g_new, g_ref, gs_nil, gs_cons, k_val, k_new, tk_val, tk_new, tk_deal, gv_val, gv_new, gv_ref, m_val, m_new, p_nm, p_tp, p_tpp, putD_nil, putD_cons, putM_nil, putM_cons, put_def, free_def, ts_nil, ts_cons, t1_ok, t1_exc, tr_bl, tr_non, ss_nil, ss_cons, s_asg, s_par, s_aug, s_app, s_ext, s_pop, s_expr, s_doc, s_ret, s_retN, s_pass, s_brk, s_cnt, s_ite, s_raise, s_setix, s_ins, i_seq, i_rg1, i_rg2, i_enum, i_zip, i_rev, sq_lst, sq_tup, wl_vs, v_add, v_sub, v_neg, v_lt, v_le, v_gt, v_ge, v_isN, v_notN, v_isB, v_notB, v_rev, v_lenL, v_lenT, v_abs, v_int, v_listL, v_listT, v_tupleL, v_tupleT, v_max2, v_min2, v_isa, Option.bind_some, List.set_cons_zero, List.set_cons_succ, List.length_cons, List.length_nil, if_true, if_false, reduceIte, Bool.false_eq_true, decide_true, decide_false, isOwn, $ls,*])
/-- slot 0 holds the script; ds are its first cells -/
def Scr (K : PySem.W.Frag) (ds : List D) (σ : L2.St) (H : Hp) : Prop := ∃ (a : Addr) (ns : List Int), σ[0]? = some (some (.ref a)) ∧ SqL K H a (ns.map V.int) ∧ ds = (ns.take 48).map D.int
theorem cut48 (ns : List Int) : cut (ns.map D.int) none (some 48) = (ns.take 48).map D.int := by
  show List.take (min 48 (ns.map D.int).length - 0) (List.drop 0 (ns.map D.int)) = _
  rw [List.map_take, List.drop_zero, Nat.sub_zero]
  apply List.take_eq_take_iff.mpr
  simp
section
variable {X : Cx} {z : Cz} {W : WX} {r : Fs}
theorem js_first {ds : List D} {i : Nat} {y sx : Str} {py px p2 p3 p4 : Pos} {j : Nat} {elt tg : Expr} {ifs : List Expr} {scope : Scope} {own : List (Str × Nat)} {pos spos : Pos} {t : T} {vs : List Nat} {c : C} {me : E} (hc : X.calm = true) (hN : X.N.Nodup) (hy : X.N[i]? = some y) (hyl : X.env.scope.names.lookup y = some .local)
    (hsw : swapsWith (.ListComp elt [⟨tg, .Subscript (.Name sx px) (.Slice none (some (.Constant (.int 48) j p3)) none p2) p4, ifs, 0⟩] scope pos) (some (.Name y py)) spos.line X.env = pure true) (h0 : X.N[0]? = some sx) (hv0 : Vis X.env.scope sx) (hd0 : (sx == ("__debug__" : Str)) = false) (hcd0 : (sx == ("__classdict__" : Str)) = false) (ok : BlkOk X.N X.env.scope scope own)
    (hg : ∀ (s : Shared) (H : Hp) (Ca : Addr) (cl : List (Str × Addr)) (fp : List Addr), PG (X.blk s H scope (compEnvC scope cl Ca X.env) fp) tg (gT X.K t)) (ht : ∀ (s : Shared) (H : Hp) (Ca : Addr) (cl : List (Str × Addr)) (fp : List Addr), PTs (X.blk s H scope (compEnvC scope cl Ca X.env) fp) ifs (trC z r c))
    (he : ∀ (s : Shared) (H : Hp) (Ca : Addr) (cl : List (Str × Addr)) (fp : List Addr), PE (X.blk s H scope (compEnvC scope cl Ca X.env) fp) elt (trE z Wf r me)) (hv : own.map (·.2) = vs := by rfl) (hts : (t.slots.all fun i => vs.contains i) = true := by rfl)
    (hs : ∀ x, foldedSetIterable (.Subscript (.Name sx px) (.Slice none (some (.Constant (.int 48) j p3)) none p2) p4) X.env x = pure x := by intro _; rfl) :
    PS X (.Assign [.Name y py] (.ListComp elt [⟨tg, .Subscript (.Name sx px) (.Slice none (some (.Constant (.int 48) j p3)) none p2) p4, ifs, 0⟩] scope pos) spos) (fun Dn σ H => Scr X.K ds σ H ∧ trS z W r (.asg (.nm i) (.comp t vs (.seq (.cst (.lst ds))) c me)) Dn σ H) :=
  PS.imp (ps_setLc hc hN hy hyl hsw (pi_seqA (pe_slice sl_list (pe_var h0 hv0 hd0 hcd0) po_none (po_some pe_int))) ok hg ht he hs) fun Dn σ H ⟨⟨a, ns, k1, k2, e⟩, h⟩ => by
    rw [hv]
    obtain ⟨F, O, env, rel, w⟩ := comp_in (Kf := X.K) (slots_ok hts) (asg_nm h)
    have ed : denI r (.seq (.cst (.lst ds))) env = .ok (.vs ds, env) := by rw [denI]; rfl
    rw [ed] at w
    have rs0 : Reps F ds (cutV (ns.map V.int) none (some 48)) := by
      have := cut_reps (F := F) (Reps.ints ns) none (some 48)
      rwa [cut48, ← e] at this
    refine ⟨.ref a, k1, 48, rfl, a, _, rfl, k2, fun p hp => ⟨p, _, rfl, .inl ⟨SqL.of upd_same, ?_⟩⟩⟩
    have fp : F p = none := by
      cases q : F p with
      | none => rfl
      | some o => rw [rel.le _ _ q] at hp; cases hp
    obtain ⟨s, r2⟩ := Cz.Rel.ext rel (le_upd fp (.lst (cutV (ns.map V.int) none (some 48)))) (le_upd hp _) (le_upd2 rel.le _) (fun b o q => by
      by_cases eb : b = p
      · rw [eb]; exact .inr hp
      · rw [upd_ne eb] at q; exact .inl q)
    exact w _ _ _ s r2 _ (wok_lst upd_same (rs0.mono (le_upd fp _)))
end

/-! ### what the rows of _law_draw come to -/
def drawS1 (ds : List D) : S := .asg (.nm 2) (.comp (.nm 4) [4] (.seq (.cst (.lst ds))) .yes (.op .abs (.cons (.op .int (.cons (.var 4) .nil)) .nil)))
def drawS2 : S := .asg (.nm 3) (.op .add (.cons (.cst (.int 7919)) (.cons (.op .mul (.cons (.cst (.int 104729)) (.cons (.var 1) .nil))) .nil)))
def drawS3 : S := .for_ (.nm 4) (.seq (.var 2)) (.cons (.asg (.nm 3) (.op .mod (.cons (.op .int (.cons (.op .add (.cons (.op .add (.cons (.op .mul (.cons (.var 3) (.cons (.cst (.int 48271)) .nil))) (.cons (.op .mod (.cons (.var 4) (.cons (.cst (.int 2147483549)) .nil))) .nil))) (.cons (.cst (.int 11)) .nil))) .nil)) (.cons (.cst (.int 2147483647)) .nil)))) .nil)
def drawE : E := .op .rev (.cons (.comp (.nm 4) [4] (.seq (.var 2)) (.one (.op .ge (.cons (.var 4) (.cons (.op .pow (.cons (.cst (.int 10)) (.cons (.cst (.int 18)) .nil))) .nil)))) (.frz 4)) .nil)
section
variable {r : Fs} {salt : Int}
def dEnv (a b c d : Option M) : Env := [none, a, b, c, d]
theorem den1 (ns : List Int) (hl : ns.length ≤ 48) : denS r (drawS1 (ns.map .int)) (dEnv (some (.val (.int salt))) none none none) = .nx (dEnv (some (.val (.int salt))) (some (.own false ((ns.map fun i => if i < 0 then -i else i).map .int))) none none) := by
  have hc := compF_fm (t := .nm 4) (own := [4]) (w := .vs (ns.map .int)) (fc := denC r .yes) (fe := denG r (.op .abs (.cons (.op .int (.cons (.var 4) .nil)) .nil)) false) (e0 := dEnv (some (.val (.int salt))) none none none) (ds := ns.map .int)
    (p := fun _ => true) (g := fun d => match d with | .int i => .int (if i < 0 then -i else i) | d => d) (put1 := fun d => dEnv (some (.val (.int salt))) none none (some (.val d))) (fun k => rfl) (fun d _ => rfl) (fun d _ => by rw [denC]) (fun d hd _ => by
      obtain ⟨i, _, rfl⟩ := List.mem_map.mp hd
      exact ⟨_, rfl, rfl⟩) (fun d _ => rfl) ((ns.map D.int).length + 1) 0 [] (Nat.zero_le _) (by omega) (by simp [maxLen]; omega)
  have em : (([] : List D) ++ (((ns.map D.int).drop 0).filter fun _ => true).map fun d => match d with | .int i => .int (if i < 0 then -i else i) | d => d) = (ns.map fun i => if i < 0 then -i else i).map D.int := by
    rw [List.drop_zero, List.nil_append, List.filter_eq_self.mpr (fun _ _ => rfl), List.map_map, List.map_map]
    rfl
  rw [em] at hc
  unfold drawS1
  simp! [q_comp, show clear (dEnv (some (.val (.int salt))) none none none) [4] = true from rfl, show wipe (dEnv (some (.val (.int salt))) none none none) [4] = dEnv (some (.val (.int salt))) none none none from rfl, hc]
  rfl
theorem den2 (hs : 0 ≤ salt ∧ salt < 1000) {b : Option M} : denS r drawS2 (dEnv (some (.val (.int salt))) b none none) = .nx (dEnv (some (.val (.int salt))) b (some (.val (.int (7919 + 104729 * salt)))) none) := by
  have hm : ((104729 : Int).natAbs.log2 + salt.natAbs.log2 < 1000000) := by
    have h1 : ((104729 : Int).natAbs).log2 = 16 := by decide
    have h2 : salt.natAbs.log2 ≤ salt.natAbs := Nat.log2_le_self _
    have := hs.1
    have := hs.2
    omega
  unfold drawS2 dEnv
  simp! [v_mul, if_pos hm]
  rfl
def stepB (b c : Int) : Int := (b * 48271 + c % 2147483549 + 11) % 2147483647
theorem stepB_lt (b c : Int) : 0 ≤ stepB b c ∧ stepB b c < 2147483647 := ⟨Int.emod_nonneg _ (by decide), Int.emod_lt_of_pos _ (by decide)⟩
theorem small_mul2 {s : Int} (h : 0 ≤ s ∧ s < 2147483647) : s.natAbs.log2 + (48271 : Int).natAbs.log2 < 1000000 := by
  have h1 : s.natAbs < 2 ^ 31 := by have := h.1; have := h.2; omega
  have e : ((48271 : Int).natAbs).log2 = 15 := by decide
  by_cases z : s.natAbs = 0
  · rw [z, e]; decide
  · have := (Nat.log2_lt z).mpr h1
    omega
theorem stepB_ok {b : Int} (h : 0 ≤ b ∧ b < 2147483647) : b.natAbs.log2 + (48271 : Int).natAbs.log2 < 1000000 := small_mul2 h
theorem den3 {cs : List Int} (hl : cs.length ≤ 48) {b : Int} (hb : 0 ≤ b ∧ b < 2147483647) {sa : Option M} : ∃ l, (l = none ∨ ∃ d, l = some (.val d)) ∧
    denS r drawS3 (dEnv sa (some (.own false (cs.map .int))) (some (.val (.int b))) none) = .nx (dEnv sa (some (.val (.lst (cs.map .int)))) (some (.val (.int (cs.foldl stepB b)))) l) := by
  obtain ⟨e', h1, l, hl2, h2⟩ := forF_fold (t := .nm 4) (w := .vs (cs.map .int)) (fb := denSs r (.cons (.asg (.nm 3) (.op .mod (.cons (.op .int (.cons (.op .add (.cons (.op .add (.cons (.op .mul (.cons (.var 3) (.cons (.cst (.int 48271)) .nil))) (.cons (.op .mod (.cons (.var 4) (.cons (.cst (.int 2147483549)) .nil))) .nil))) (.cons (.cst (.int 11)) .nil))) .nil)) (.cons (.cst (.int 2147483647)) .nil)))) .nil))
    (ds := cs.map .int) (I := fun k e => ∃ l, (l = none ∨ ∃ d, l = some (.val d)) ∧ (0 ≤ (cs.take k).foldl stepB b ∧ (cs.take k).foldl stepB b < 2147483647) ∧ e = dEnv sa (some (.val (.lst (cs.map .int)))) (some (.val (.int ((cs.take k).foldl stepB b)))) l)
    (fun k e _ => rfl) (fun k e d ⟨l, hl, hk, he⟩ hd => by
      subst he
      rw [List.getElem?_map] at hd
      obtain ⟨c, hc, rfl⟩ := Option.map_eq_some_iff.mp hd
      have et : cs.take (k + 1) = cs.take k ++ [c] := by
        rw [List.take_add_one, hc]; rfl
      refine ⟨dEnv sa (some (.val (.lst (cs.map .int)))) (some (.val (.int ((cs.take k).foldl stepB b)))) (some (.val (.int c))), dEnv sa (some (.val (.lst (cs.map .int)))) (some (.val (.int ((cs.take (k + 1)).foldl stepB b)))) (some (.val (.int c))), ?_, ?_, _, .inr ⟨_, rfl⟩, ?_, rfl⟩
      · rcases hl with rfl | ⟨d, rfl⟩ <;> rfl
      · rw [et, List.foldl_append]
        unfold dEnv
        simp! [v_mul, if_pos (stepB_ok hk), v_mod, show (0 : Int) < 2147483549 from by decide, show (0 : Int) < 2147483647 from by decide]
        rfl
      · rw [et, List.foldl_append]
        exact stepB_lt _ _) ((cs.map D.int).length + 1) 0 (dEnv sa (some (.val (.lst (cs.map .int)))) (some (.val (.int b))) none) ⟨none, .inl rfl, hb, rfl⟩ (Nat.zero_le _) (by omega)
  rw [List.length_map, List.take_length] at h2
  refine ⟨l, hl2, ?_⟩
  unfold drawS3
  unfold dEnv
  simp! [s_for]
  show forF (.nm 4) (.vs (cs.map .int)) _ ((cs.map D.int).length + 1) 0 (dEnv sa (some (.val (.lst (cs.map .int)))) (some (.val (.int b))) none) = _
  rw [h1, h2.2]
  rfl
theorem den4 {cs : List Int} (hl : cs.length ≤ 48) {sa sb l : Option M} (hl : l = none ∨ ∃ d, l = some (.val d)) :
    denE r drawE (dEnv sa (some (.val (.lst (cs.map .int)))) sb l) = .ok (.mv (.own false (((cs.filter fun x => decide (10 ^ 18 ≤ x)).reverse).map .int)), dEnv sa (some (.val (.lst (cs.map .int)))) sb l) := by
  have hc := compF_fm (t := .nm 4) (own := [4]) (w := .vs (cs.map .int)) (fc := denC r (.one (.op .ge (.cons (.var 4) (.cons (.op .pow (.cons (.cst (.int 10)) (.cons (.cst (.int 18)) .nil))) .nil))))) (fe := denG r (.frz 4) false) (e0 := dEnv sa (some (.val (.lst (cs.map .int)))) sb none) (ds := cs.map .int)
    (p := fun d => match d with | .int i => decide ((10 : Int) ^ 18 ≤ i) | d => false) (g := fun d => d) (put1 := fun d => dEnv sa (some (.val (.lst (cs.map .int)))) sb (some (.val d))) (fun k => rfl) (fun d _ => rfl) (fun d hd => by
      obtain ⟨i, _, rfl⟩ := List.mem_map.mp hd
      unfold dEnv
      simp! [v_pow, show (0 : Int) ≤ 18 ∧ (18 : Int) ≤ 1000 ∧ (10 : Int).natAbs < 2 ^ 60 from by decide]
      rfl) (fun d _ _ => ⟨_, rfl, rfl⟩) (fun d _ => rfl) ((cs.map D.int).length + 1) 0 [] (Nat.zero_le _) (by omega) (by simp [maxLen]; omega)
  have em : (([] : List D) ++ (((cs.map D.int).drop 0).filter fun d => match d with | .int i => decide ((10 : Int) ^ 18 ≤ i) | d => false).map fun d => d) = (cs.filter fun x => decide (10 ^ 18 ≤ x)).map D.int := by
    rw [List.drop_zero, List.nil_append, List.map_id', List.filter_map]
    rfl
  rw [em] at hc
  have ec : clear (dEnv sa (some (.val (.lst (cs.map .int)))) sb l) [4] = true := by rcases hl with rfl | ⟨d, rfl⟩ <;> rfl
  unfold drawE
  have e1 : denE r (.comp (.nm 4) [4] (.seq (.var 2)) (.one (.op .ge (.cons (.var 4) (.cons (.op .pow (.cons (.cst (.int 10)) (.cons (.cst (.int 18)) .nil))) .nil)))) (.frz 4)) (dEnv sa (some (.val (.lst (cs.map .int)))) sb l) = .ok (.mv (.own false ((cs.filter fun x => decide (10 ^ 18 ≤ x)).map .int)), dEnv sa (some (.val (.lst (cs.map .int)))) sb l) := by
    show denG r _ false _ = _
    rw [q_comp]
    have ei : denI r (.seq (.var 2)) (dEnv sa (some (.val (.lst (cs.map .int)))) sb l) = .ok (.vs (cs.map .int), dEnv sa (some (.val (.lst (cs.map .int)))) sb l) := by
      unfold dEnv
      simp!
    rw [ei]
    simp! [ec]
    show (match compF (.nm 4) [4] (.vs (cs.map .int)) _ _ ((cs.map D.int).length + 1) 0 [] (dEnv sa (some (.val (.lst (cs.map .int)))) sb none) with
          | .ok (ds, env2) => R.ok (Q.mv (.own false ds), back (dEnv sa (some (.val (.lst (cs.map .int)))) sb l) env2 [4])
          | _ => .stuck) = _
    rw [hc]
    rcases hl with rfl | ⟨d, rfl⟩ <;> rfl
  show denG r _ false _ = _
  rw [q_op, es_cons]
  show R.bind (R.bind (denE r _ _) _) _ = _
  rw [e1]
  simp!
  rw [List.map_reverse]
end
/-- the promise of _law_draw -/
def spD (K : PySem.W.Frag) : Sp := fun vs H Q _ => ∃ (a : Addr) (ns : List Int) (salt : Int) (F0 : Hp), vs = [.ref a, .int salt] ∧ (0 ≤ salt ∧ salt < 1000) ∧ SqL K H a (ns.map V.int) ∧ Le F0 H ∧
  ∀ v F' H' c t, Step F0 H [] F' H' [] → Le F' H' → RM F' H' 0 0 (dealOf salt c ns) v t → Fresh H [] t → Q v H'
def tDraw (K : PySem.W.Frag) (z : Cz) (W : WX) (r : Fs) (ds : List D) : TS :=
  tSeq (fun Dn σ H => Scr K ds σ H ∧ trS z W r (drawS1 ds) Dn σ H) (tSeq (trS z W r drawS2) (tSeq (trS z W r drawS3) (tSeq (tRet (tLst (tCons (trE z W r drawE) (tCons (tVar 3) tNil)))) tNext)))
theorem blend_step (salt : Int) (cs : List Int) : cs.foldl stepB (7919 + 104729 * salt) = blendOf salt cs := rfl
theorem Reps.ints_inv {F : Hp} {ns : List Int} {vs : List V} (h : Reps F (ns.map .int) vs) : vs = ns.map V.int := ints?_reps (ds := ns.map .int) (by
  induction ns generalizing vs with
  | nil => rfl
  | cons n ns ih =>
    obtain ⟨_, _, _, _, t⟩ := h.cons_inv
    simp only [List.map_cons, ints?, ih t]
    rfl) h
theorem draw_body {K : PySem.W.Frag} {cl : Nat → Addr} {W : WX} {r : Fs} {H : Hp} {a : Addr} {ns : List Int} {salt : Int} {F0 : Hp} {N : L2.St → Hp → Prop} {Q : VK} (hs : 0 ≤ salt ∧ salt < 1000) (hS : SqL K H a (ns.map V.int)) (le : Le F0 H)
    (k : ∀ v F' H' c t, Step F0 H [] F' H' [] → Le F' H' → RM F' H' 0 0 (dealOf salt c ns) v t → Fresh H [] t → Q v H') :
    tDraw K ⟨0, 0, cl⟩ W r ((ns.take 48).map .int) ⟨N, Q, fun _ _ => False, fun _ _ => False⟩ [some (.ref a), some (.int salt), none, none, none] H := by
  have hl : (ns.take 48).length ≤ 48 := by rw [List.length_take]; omega
  have hl2 : (cellsOf ns).length ≤ 48 := by unfold cellsOf; rw [List.length_map]; exact hl
  refine ⟨⟨a, ns, rfl, hS, rfl⟩, F0, [], dEnv (some (.val (.int salt))) none none none, ⟨le, ?_, List.nodup_nil⟩, ?_⟩
  · exact ⟨_, _, [], [], rfl, rfl, rfl, _, _, [], [], rfl, rfl, ⟨_, rfl, rfl, by simp [Rep]⟩, _, _, [], [], rfl, rfl, rfl, _, _, [], [], rfl, rfl, rfl, _, _, [], [], rfl, rfl, rfl, rfl, rfl⟩
  rw [den1 _ hl]
  intro σ1 F1 H1 O1 s1 r1 _
  refine ⟨F1, O1, _, r1, ?_⟩
  rw [den2 hs]
  intro σ2 F2 H2 O2 s2 r2 _
  refine ⟨F2, O2, _, r2, ?_⟩
  have hb : 0 ≤ 7919 + 104729 * salt ∧ 7919 + 104729 * salt < 2147483647 := by omega
  obtain ⟨l, el, e3⟩ := den3 (r := r) (cs := cellsOf ns) hl2 hb (sa := some (.val (.int salt)))
  show wO _ _ (denS r drawS3 (dEnv (some (.val (.int salt))) (some (.own false ((cellsOf ns).map .int))) (some (.val (.int (7919 + 104729 * salt)))) none)) _ _ _ _ _ _
  rw [e3, blend_step]
  intro σ3 F3 H3 O3 s3 r3 _
  refine ⟨F3, O3, _, r3, ?_⟩
  rw [den4 hl2 el]
  intro F4 H4 O4 s4 r4 v t hq ft
  obtain ⟨c, vs, rfl, rfl, h1, h2, h3⟩ := hq
  obtain ⟨u, as, k1, k2, _⟩ := slot_val r4 (i := 3) (m := .val (.int (blendOf salt (cellsOf ns)))) rfl
  obtain ⟨_, rp⟩ := k2
  have eu : u = .int (blendOf salt (cellsOf ns)) := by simpa [Rep] using rp
  subst eu
  refine ⟨_, k1, by rw [sizeLine_eq]; exact (by decide : 2 ≤ 16777216), fun p hp => ?_⟩
  have st : Step F0 H [] F4 H4 O4 := s1.trans (s2.trans (s3.trans s4))
  have ecp : c ≠ p := fun e => by rw [e, hp] at h1; cases h1
  have fp : F4 p = none := by
    cases q : F4 p with
    | none => rfl
    | some o => rw [r4.le _ _ q] at hp; cases hp
  have s5 : Step F4 H4 [] F4 (upd H4 p (.lst [.ref c, .int (blendOf salt (cellsOf ns))])) [] := ⟨Le.refl _, fun b o q _ => le_upd hp _ b o q, fun b o q => .inl q, fun b h => absurd h List.not_mem_nil, fun b o q => ⟨o, le_upd hp _ b o q⟩⟩
  have ev := h3.ints_inv
  subst ev
  refine k (.ref p) F4 _ c [p, c] ((st.less (O2 := []) (fun b h => absurd h List.not_mem_nil)).trans s5) (r4.le.trans (le_upd hp _)) ⟨p, c, rfl, rfl, upd_same, ?_, fp, h2, rfl⟩ ⟨?_, fun b hb => ⟨List.not_mem_nil, ?_⟩⟩
  · rw [upd_ne ecp]; exact h1
  · simp [Ne.symm ecp]
  · rcases List.mem_cons.mp hb with e | hb
    · rw [e]; exact st.back hp
    · have e : b = c := by simpa using hb
      rw [e]
      exact s1.back (s2.back (s3.back (ft.2 c List.mem_cons_self).2))
section
variable {P : Program} {w : World} {K : PySem.W.Frag} {mg : Str → Option Value} {base : Heap} {k : Nat} {f : Addr} {fd : FuncData} {cl : Nat → Addr} {r : Fs}
theorem draw_ok {x qual : Str} {st : Stmt} (F : FunX K x qual st f fd) (S : FnScope ["script", "salt", "cells", "blend", "cell"] ["script", "salt"] (defScope st))
    (body : ∀ (cd : Value) (A : Around) (outer : List PySem.Env) (s : Shared) (H : Hp) (E : XK) (ds : List D), Room k (A.deeper (envOfC qual (defScope st) s.heap.objs.size f cd)) → A.guards = some [] →
      PSs (cxOf (L2.CX P w) P w K mg base ["script", "salt", "cells", "blend", "cell"] qual (defScope st) f cd A outer s H E) (defBody st) (tDraw K ⟨0, 0, cl⟩ (fun cls d _ H => E cls d H) r ds)) : FnG P w K mg base (k + 1) f fd ["script", "salt"] (spD K) :=
  fnG_mk F S (fun vs H Q E ⟨_, _, _, _, e, _⟩ => by rw [e]; rfl) fun cd A outer s H vs Q E room g ⟨a, ns, salt, F0, e, hs, hS, le, k⟩ =>
    ⟨_, body cd A outer s H E ((ns.take 48).map .int) room g, by subst e; exact draw_body hs hS le k⟩
end

/-! ### a law that begins with its deal -/
section
variable {P : Program} {w : World} {K : PySem.W.Frag} {mg : Str → Option Value} {base : Heap} {k : Nat} {f : Addr} {fd : FuncData} {cl : Nat → Addr} {r : Fs}
/-- what is wanted of a law -/
def spL (K : PySem.W.Frag) (n : Nat) : Sp := fun vs H Q _ => ∃ (a : Addr) (ns : List Int), vs = [.ref a] ∧ SqL K H a (ns.map V.int) ∧ ns.length ≤ n ∧ (∀ z ∈ ns, Builtin.Int.intBits z ≤ 1048576) ∧ ∀ H', Q (.bl true) H'
/-- deal = _law_draw(script, salt), then the rest -/
def tLaw (K : PySem.W.Frag) (salt : Int) (z : Cz) (W : WX) (r : Fs) (b : Ss) : TS :=
  tSeq (tAsg (fun σ H Q => tCons (tVar 0) (tCons (tC (.int salt)) tNil) σ H fun vs H1 => spD K vs H1 Q fun cls d H => W cls d σ H) (gName 1)) (trSs z W r b)
theorem law_body {N : List Str} {a : Addr} {ns : List Int} {salt : Int} {m : Nat} {b : Ss} {H : Hp} {W : WX} {NX : L2.St → Hp → Prop} {Q : VK} (hs : 0 ≤ salt ∧ salt < 1000) (hS : SqL K H a (ns.map V.int)) (hN : N.length = m + 2)
    (math : ∀ c, ∃ e, denSs r b (none :: some (dealOf salt c ns) :: List.replicate m none) = .rt (.val (.bl true)) e) (q : ∀ H', Q (.bl true) H') :
    tLaw K salt ⟨0, 0, cl⟩ W r b ⟨NX, Q, fun _ _ => False, fun _ _ => False⟩ (start N [.ref a]) H := by
  have h0 : (start N [V.ref a])[0]? = some (some (.ref a)) := rfl
  have es : start N [V.ref a] = some (.ref a) :: none :: List.replicate m none := by
    unfold L2.start
    rw [hN]
    rfl
  refine ⟨.ref a, h0, a, ns, salt, fun _ => none, rfl, hs, hS, fun _ _ h => (nomatch h), fun v F' H' c t st le rm ft => ?_⟩
  obtain ⟨e, he⟩ := math c
  refine ⟨F', t, none :: some (dealOf salt c ns) :: List.replicate m none, ⟨le, ?_, ft.1⟩, ?_⟩
  · rw [es]
    refine ⟨_, _, [], t, rfl, rfl, rfl, _, _, t, [], rfl, (List.append_nil t).symm, ⟨v, rfl, rm⟩, nones_rel m⟩
  · rw [he]
    refine ⟨rfl, fun v2 σ' F2 H2 O2 t2 _ _ _ rm2 _ _ => ?_⟩
    have e2 : v2 = .bl true := by simpa [Rep] using rm2.2
    subst e2
    exact q H2
theorem law_ok {x qual : Str} {st : Stmt} {N : List Str} {salt : Int} {m n : Nat} {b : Ss} (F : FunX K x qual st f fd) (S : FnScope N ["script"] (defScope st)) (hN : N.length = m + 2) (hs : 0 ≤ salt ∧ salt < 1000)
    (math : ∀ c ns, ns.length ≤ n → (∀ z ∈ ns, Builtin.Int.intBits z ≤ 1048576) → ∃ e, denSs r b (none :: some (dealOf salt c ns) :: List.replicate m none) = .rt (.val (.bl true)) e)
    (body : ∀ (cd : Value) (A : Around) (outer : List PySem.Env) (s : Shared) (H : Hp) (E : XK), Room k (A.deeper (envOfC qual (defScope st) s.heap.objs.size f cd)) → A.guards = some [] →
      PSs (cxOf (L2.CX P w) P w K mg base N qual (defScope st) f cd A outer s H E) (defBody st) (tLaw K salt ⟨0, 0, cl⟩ (fun cls d _ H => E cls d H) r b)) : FnG P w K mg base (k + 1) f fd ["script"] (spL K n) :=
  fnG_mk F S (fun vs H Q E ⟨_, _, e, _⟩ => by rw [e]; rfl) fun cd A outer s H vs Q E room g ⟨a, ns, e, hS, hl, hb, k⟩ =>
    ⟨_, body cd A outer s H E room g, by subst e; exact law_body hs hS hN (fun c => math c ns hl hb) k⟩
end
end Rx

/-! RxDef -/
/-! RxDef: calls that leave the defaults to the def. -/
set_option linter.all false
set_option Elab.async false
set_option maxRecDepth 100000
set_option maxHeartbeats 4000000
namespace Rx
open PySem PySem.Spec PyProof.Rows L2
local macro_rules
  | `(tactic| simp!) => `(tactic| simp only [slot_z, slot_1, slot_2, slot_3, slot_4, slot_5, slot_6, slot_7, slot_8, slot_9, slot_10, slot_11, slot_12, q_var, q_frz, q_cst, q_op, q_call, q_callK, q_tup, q_lst, q_ite, q_and, q_or, q_not, q_chain, q_pop, q_exAt, es_nil, es_cons, ks_nil, ks_cons, t_and, t_or, t_not, t_op, t_var, t_call, t_callK, t_chain, t_cst, c_yes, c_one, b_ok, b_exc, o_ok, o_exc, of_some, g_val, g_new, g_ref, gs_nil, gs_cons, k_val, k_new, tk_val, tk_new, tk_deal, gv_val, gv_new, gv_ref, m_val, m_new, p_nm, p_tp, p_tpp, putD_nil, putD_cons, putM_nil, putM_cons, put_def, free_def, ts_nil, ts_cons, t1_ok, t1_exc, tr_bl, tr_non, ss_nil, ss_cons, s_asg, s_par, s_aug, s_app, s_ext, s_pop, s_expr, s_doc, s_ret, s_retN, s_pass, s_brk, s_cnt, s_ite, s_raise, s_setix, s_ins, i_seq, i_rg1, i_rg2, i_enum, i_zip, i_rev, sq_lst, sq_tup, wl_vs, v_add, v_sub, v_neg, v_lt, v_le, v_gt, v_ge, v_isN, v_notN, v_isB, v_notB, v_rev, v_lenL, v_lenT, v_abs, v_int, v_listL, v_listT, v_tupleL, v_tupleT, v_max2, v_min2, v_isa, Option.bind_some, List.set_cons_zero, List.set_cons_succ, List.length_cons, List.length_nil, if_true, if_false, reduceIte, Bool.false_eq_true, decide_true, decide_false, isOwn])
  | `(tactic| simp! [$ls,*]) => `(tactic| simp only [slot_z, slot_1, slot_2, slot_3, slot_4, slot_5, slot_6, slot_7, slot_8, slot_9, slot_10, slot_11, slot_12, q_var, q_frz, q_cst, q_op, q_call, q_callK, q_tup, q_lst, q_ite, q_and, q_or, q_not, q_chain, q_pop, q_exAt, es_nil, es_cons, ks_nil, ks_cons, t_and, t_or, t_not, t_op, t_var, t_call, t_callK, t_chain, t_cst, c_yes, c_one, b_ok, b_exc, o_ok, o_exc, of_some, g_val, g_new, g_ref, gs_nil, gs_cons, k_val, k_new, tk_val, tk_new, tk_deal, gv_val, gv_new, gv_ref, m_val, m_new, p_nm, p_tp, p_tpp, putD_nil, putD_cons, putM_nil, putM_cons, put_def, free_def, ts_nil, ts_cons, t1_ok, t1_exc, tr_bl, tr_non, ss_nil, ss_cons, s_asg, s_par, s_aug, s_app, s_ext, s_pop, s_expr, s_doc, s_ret, s_retN, s_pass, s_brk, s_cnt, s_ite, s_raise, s_setix, s_ins, i_seq, i_rg1, i_rg2, i_enum, i_zip, i_rev, sq_lst, sq_tup, wl_vs, v_add, v_sub, v_neg, v_lt, v_le, v_gt, v_ge, v_isN, v_notN, v_isB, v_notB, v_rev, v_lenL, v_lenT, v_abs, v_int, v_listL, v_listT, v_tupleL, v_tupleT, v_max2, v_min2, v_isa, Option.bind_some, List.set_cons_zero, List.set_cons_succ, List.length_cons, List.length_nil, if_true, if_false, reduceIte, Bool.false_eq_true, decide_true, decide_false, isOwn, $ls,*])
/-- arguments, and constants behind them -/
def Es.app : Es → List D → Es
  | .nil, [] => .nil
  | .nil, d :: ds => .cons (.cst d) (Es.app .nil ds)
  | .cons e es, ds => .cons e (es.app ds)
section
variable {r : Fs}
theorem denEs_csts : ∀ (ds : List D) (env : Env), denEs r (Es.app .nil ds) env = .ok (ds.map asQ, env)
  | [], env => by rw [Es.app, es_nil]; rfl
  | d :: ds, env => by rw [Es.app, es_cons, q_cst, b_ok, denEs_csts ds env]; rfl
theorem denEs_app (ds : List D) : ∀ (es : Es) (env : Env), denEs r (es.app ds) env = (denEs r es env).bind fun p => .ok (p.1 ++ ds.map asQ, p.2)
  | .nil, env => by rw [denEs_csts, es_nil]; rfl
  | .cons e es, env => by
    rw [Es.app, es_cons, es_cons]
    cases denG r e false env with
    | ok p =>
      rw [b_ok, b_ok, denEs_app ds es p.2]
      cases denEs r es p.2 with
      | ok q => rfl
      | exc c d e => rfl
      | stuck => rfl
    | exc c d e => rfl
    | stuck => rfl
theorem rqs_app {z : Cz} {F H : Hp} {σ : L2.St} {ds : List D} {dvs : List V} (hd : Reps F ds dvs) : ∀ {qs : List Q} {vs : List V} {t : List Addr}, RQs z F H σ qs vs t → RQs z F H σ (qs ++ ds.map asQ) (vs ++ dvs) t
  | [], vs, t, h => by
    obtain ⟨rfl, rfl⟩ := h
    exact asQ_rqs hd
  | q :: qs, vs, t, h => by
    obtain ⟨v, r', x, y, rfl, rfl, g1, g2⟩ := h
    exact ⟨v, r' ++ dvs, x, y, rfl, rfl, g1, rqs_app hd g2⟩
end
section
variable {X : Cx} {k : Nat} {f : Addr} {fd : FuncData} {ps : List Str} {sp : Sp} {E : L2.St → XK} {x : Str} {p pos : Pos} {e : Expr} {es : List Expr} {t : TA} {dvs : List V}
theorem pe_callGD (G : FnG X.prog X.w X.K X.mg X.base k f fd ps sp) (room : Room k X.A) (g : X.A.guards = some []) (hm : X.mg x = some (.ref f)) (hk : PySem.W.keepIn X.K (.ref f) = true) (hb : ∃ ds, Vals dvs ds ∧ Binds X.K fd ps ds) (hx : ∀ σ, PassesAt (L2.CX X.prog X.w) X σ (E σ))
    (ha : PA X (e :: es) t) (hg : Gl X x := by rfl) (hdb : (x == ("__debug__" : Str)) = false := by decide) (s1 : starEach (e :: es) X.env = (false, eval e X.env) :: starEach es X.env := by rfl) (s2 : (backTo pos (starEach es X.env)).any (·.1) = false := by rfl) :
    PE X (.Call (.Name x p) (e :: es) [] pos) (fun σ H Q => t σ H fun vs H1 => sp (vs ++ dvs) H1 Q (E σ)) := by
  obtain ⟨ds, hd, hb⟩ := hb
  refine ⟨fun pins s σ H Q I h => wpAny_Call_Name_kw (ld_glob I hg hm ?_ hdb)⟩
  refine PySem.W.callWith_K (h₀ := X.base) I.ok.mod.kin hk (thn (ha.run pos pins s σ H _ I h) fun us t1 ⟨vs, H1, I1, r, q⟩ => ⟨I1.kIn, ?_⟩) s1 s2
  have rr := r.append hd
  exact G.called (args := ⟨us, []⟩) (us := us ++ ds) room g (fun hl => hb t1 us I1.kIn (by rw [← rr.length]; exact hl)) (hx σ) I1 rr q
end
section
variable {X : Cx} {z : Cz} {W : WX} {r : Fs} {k fi : Nat} {f : Addr} {fd : FuncData} {ps : List Str} {x : Str} {p pos : Pos}
theorem je_callD {e : Expr} {es : List Expr} {mes : Es} {dvs : List V} {dds : List D} (G : FnG X.prog X.w X.K X.mg X.base k f fd ps (spM z.cl (r fi))) (room : Room k X.A) (g : X.A.guards = some []) (hm : X.mg x = some (.ref f)) (hk : PySem.W.keepIn X.K (.ref f) = true) (hb : ∃ ds, Vals dvs ds ∧ Binds X.K fd ps ds)
    (hr : ∀ F, Reps F dds dvs) (tk : Takes X W) (ha : PA X (e :: es) (trEs z W r mes)) (hg : Gl X x := by rfl) (hdb : (x == ("__debug__" : Str)) = false := by decide) (s1 : starEach (e :: es) X.env = (false, eval e X.env) :: starEach es X.env := by rfl) (s2 : (backTo pos (starEach es X.env)).any (·.1) = false := by rfl) :
    PE X (.Call (.Name x p) (e :: es) [] pos) (trE z W r (.call fi (mes.app dds))) := PE.imp (pe_callGD (E := WE W) G room g hm hk hb (fun σ => passAt tk σ) ha hg hdb s1 s2) fun σ H K ⟨F, O, env, rel, w⟩ => by
  rw [denE_call, denEs_app] at w
  have e1 : ((denEs r mes env).bind fun p => R.ok (p.1 ++ dds.map asQ, p.2)).bind (fun p => callF r fi p.1 p.2) = (denEs r mes env).bind fun p => callF r fi (p.1 ++ dds.map asQ) p.2 := by cases denEs r mes env <;> rfl
  rw [e1] at w
  refine ⟨F, O, env, rel, wX.bind0 w fun qs env1 F1 H1 O1 _ s1 r1 w1 => ?_⟩
  intro vs t hq ft
  have := call_in s1 r1 (rqs_app (hr F1) hq) ft w1
  rwa [List.append_nil] at this
end

/-! ### facts for a head -/
theorem exm_by {K : PySem.W.Frag} {S T : Addr} {b : Bool} (base : PySem.W.subIn K (.ref T) (.type "BaseException") = some true) (cls : PySem.W.isClsIn K T = true) (ty : PySem.W.typeIn K (.ref T) = some (.type "type")) (sub : PySem.W.subIn K (.ref S) (.ref T) = some b) : PySem.W.exmOne K (.ref S) (.ref T) = some b := by
  have a1 : (PySem.W.clsIn K T).isSome = true := cls
  have a2 : ((PySem.W.clsIn K T).isSome && PySem.W.typeIn K (.ref T) == some (.type "type")) = true := by rw [a1, ty] <;> rfl
  have a3 : (PySem.W.subIn K (.ref T) (.type "BaseException") == some true) = true := by rw [base] <;> rfl
  unfold PySem.W.exmOne
  rw [if_pos a3]
  show (if ((PySem.W.clsIn K T).isSome && PySem.W.typeIn K (.ref T) == some (.type "type")) = true then PySem.W.subIn K (.ref S) (.ref T) else none) = _
  rw [if_pos a2]
  exact sub
def nth {α : Type} (z : α) : List α → Nat → α
  | [], _ => z
  | a :: _, 0 => a
  | _ :: l, i + 1 => nth z l i
theorem dflt1 {T : Addr} {K : PySem.W.Frag} {o : Obj} {its : List Value} {n : Nat} {dvs : List V} (l : K.lookup T = some o) (d : o.data = .seq its.toArray n) (v : Vals dvs its) (ne : dvs ≠ []) : DflV K (.ref T) dvs := .inr ⟨ne, T, o, its, n, rfl, l, d, v⟩
theorem funD_mk {K : PySem.W.Frag} {x qual : Str} {st : Stmt} {f T : Addr} {oc : Value} {od an : Option Addr} {osl : Array (Option Value)} {kV doc pm cdv ct : Value} {dvs : List V} (l : K.lookup f = some ⟨oc, od, .func (PySem.W.fnOf x qual (defArgs st) (defBody st) (defScope st) (.ref T) kV doc pm an cdv ct), osl⟩)
    (c : PySem.W.codeIn K cdv qual = true) (k : PySem.W.keepIn K (.ref f) = true) (d : DflV K (.ref T) dvs) : FunD K x qual (defArgs st) (defBody st) (defScope st) dvs [] f (PySem.W.fnOf x qual (defArgs st) (defBody st) (defScope st) (.ref T) kV doc pm an cdv ct) :=
  ⟨⟨oc, od, _, kV, doc, pm, an, cdv, ct, osl, rfl, l, c, d, .inl rfl⟩, k⟩
theorem binds_full {K : PySem.W.Frag} {fd : FuncData} {ps : List Str} (h : ∃ ds, Vals [] ds ∧ Binds K fd ps ds) : Binds K fd ps [] := by
  obtain ⟨ds, v, b⟩ := h
  cases v
  exact b
end Rx

/-! RxWp -/
/-! RxWp: what a meaning leads to, whatever was drawn: wishes, pushed backwards. -/
set_option linter.all false
set_option Elab.async false
set_option maxRecDepth 100000
set_option maxHeartbeats 4000000
namespace Rx
local macro_rules
  | `(tactic| simp!) => `(tactic| simp only [slot_z, slot_1, slot_2, slot_3, slot_4, slot_5, slot_6, slot_7, slot_8, slot_9, slot_10, slot_11, slot_12, q_var, q_frz, q_cst, q_op, q_call, q_callK, q_tup, q_lst, q_ite, q_and, q_or, q_not, q_chain, q_pop, q_exAt, es_nil, es_cons, ks_nil, ks_cons, t_and, t_or, t_not, t_op, t_var, t_call, t_callK, t_chain, t_cst, c_yes, c_one, b_ok, b_exc, o_ok, o_exc, of_some, g_val, g_new, g_ref, gs_nil, gs_cons, k_val, k_new, tk_val, tk_new, tk_deal, gv_val, gv_new, gv_ref, m_val, m_new, p_nm, p_tp, p_tpp, putD_nil, putD_cons, putM_nil, putM_cons, put_def, free_def, ts_nil, ts_cons, t1_ok, t1_exc, tr_bl, tr_non, ss_nil, ss_cons, s_asg, s_par, s_aug, s_app, s_ext, s_pop, s_expr, s_doc, s_ret, s_retN, s_pass, s_brk, s_cnt, s_ite, s_raise, s_setix, s_ins, i_seq, i_rg1, i_rg2, i_enum, i_zip, i_rev, sq_lst, sq_tup, wl_vs, v_add, v_sub, v_neg, v_lt, v_le, v_gt, v_ge, v_isN, v_notN, v_isB, v_notB, v_rev, v_lenL, v_lenT, v_abs, v_int, v_listL, v_listT, v_tupleL, v_tupleT, v_max2, v_min2, v_isa, Option.bind_some, List.set_cons_zero, List.set_cons_succ, List.length_cons, List.length_nil, if_true, if_false, reduceIte, Bool.false_eq_true, decide_true, decide_false, isOwn])
  | `(tactic| simp! [$ls,*]) => `(tactic| simp only [slot_z, slot_1, slot_2, slot_3, slot_4, slot_5, slot_6, slot_7, slot_8, slot_9, slot_10, slot_11, slot_12, q_var, q_frz, q_cst, q_op, q_call, q_callK, q_tup, q_lst, q_ite, q_and, q_or, q_not, q_chain, q_pop, q_exAt, es_nil, es_cons, ks_nil, ks_cons, t_and, t_or, t_not, t_op, t_var, t_call, t_callK, t_chain, t_cst, c_yes, c_one, b_ok, b_exc, o_ok, o_exc, of_some, g_val, g_new, g_ref, gs_nil, gs_cons, k_val, k_new, tk_val, tk_new, tk_deal, gv_val, gv_new, gv_ref, m_val, m_new, p_nm, p_tp, p_tpp, putD_nil, putD_cons, putM_nil, putM_cons, put_def, free_def, ts_nil, ts_cons, t1_ok, t1_exc, tr_bl, tr_non, ss_nil, ss_cons, s_asg, s_par, s_aug, s_app, s_ext, s_pop, s_expr, s_doc, s_ret, s_retN, s_pass, s_brk, s_cnt, s_ite, s_raise, s_setix, s_ins, i_seq, i_rg1, i_rg2, i_enum, i_zip, i_rev, sq_lst, sq_tup, wl_vs, v_add, v_sub, v_neg, v_lt, v_le, v_gt, v_ge, v_isN, v_notN, v_isB, v_notB, v_rev, v_lenL, v_lenT, v_abs, v_int, v_listL, v_listT, v_tupleL, v_tupleT, v_max2, v_min2, v_isa, Option.bind_some, List.set_cons_zero, List.set_cons_succ, List.length_cons, List.length_nil, if_true, if_false, reduceIte, Bool.false_eq_true, decide_true, decide_false, isOwn, $ls,*])
/-- nothing: a sign that a wish stays as it is -/
inductive Ph {α : Type} (a : α) : Type where
  | mk
def R.wp {α : Type} (x : R α) (K : α → Prop) (X : Nat → D → Env → Prop) (_ : Ph (K, X) := .mk) : Prop := match x with
  | .ok a => K a
  | .exc c d e => X c d e
  | .stuck => False
structure Po where
  nx : Env → Prop
  rt : M → Env → Prop
  bk : Env → Prop
  ct : Env → Prop
  ex : Nat → D → Env → Prop
def O.wp (x : O) (P : Po) (_ : Ph P := .mk) : Prop := match x with
  | .nx e => P.nx e
  | .rt m e => P.rt m e
  | .bk e => P.bk e
  | .ct e => P.ct e
  | .exc c d e => P.ex c d e
  | .stuck => False
section
variable {r : Fs} {env : Env} {P : Po}
theorem wp_ok {α : Type} (a : α) (K : α → Prop) (X : Nat → D → Env → Prop) : R.wp (.ok a) K X = K a := rfl
theorem wp_exc {α : Type} (c : Nat) (d : D) (e : Env) (K : α → Prop) (X : Nat → D → Env → Prop) : R.wp (.exc c d e) K X = X c d e := rfl
theorem wp_stuck {α : Type} (K : α → Prop) (X : Nat → D → Env → Prop) : R.wp .stuck K X = False := rfl
theorem wp_bind {α β : Type} (x : R α) (k : α → R β) (K : β → Prop) (X : Nat → D → Env → Prop) : R.wp (x.bind k) K X = R.wp x (fun a => R.wp (k a) K X) X := by cases x <;> rfl
theorem wp_o {α : Type} (x : R α) (k : α → O) : O.wp (x.o k) P = R.wp x (fun a => O.wp (k a) P) P.ex := by cases x <;> rfl
theorem wp_ite {α : Type} (c : Prop) [Decidable c] (x y : R α) (K : α → Prop) (X : Nat → D → Env → Prop) : R.wp (if c then x else y) K X = if c then R.wp x K X else R.wp y K X := by split <;> rfl
theorem wo_ite (c : Prop) [Decidable c] (x y : O) : O.wp (if c then x else y) P = if c then O.wp x P else O.wp y P := by split <;> rfl
theorem wo_nx (e : Env) : O.wp (.nx e) P = P.nx e := rfl
theorem wo_rt (m : M) (e : Env) : O.wp (.rt m e) P = P.rt m e := rfl
theorem wo_bk (e : Env) : O.wp (.bk e) P = P.bk e := rfl
theorem wo_ct (e : Env) : O.wp (.ct e) P = P.ct e := rfl
theorem wo_exc (c : Nat) (d : D) (e : Env) : O.wp (.exc c d e) P = P.ex c d e := rfl
theorem wo_stuck : O.wp .stuck P = False := rfl
theorem wo_cons (s : S) (ss : Ss) : O.wp (denSs r (.cons s ss) env) P = O.wp (denS r s env) ⟨fun e => O.wp (denSs r ss e) P, P.rt, P.bk, P.ct, P.ex⟩ := by
  rw [ss_cons]
  cases denS r s env <;> rfl
/-- what a test of a value leads to -/
def tst (p : Q × Env) (K : Bool × Env → Prop) : Prop := match p.1.get p.2 with
  | some d => match truth d with
    | some k => K (k, p.2)
    | none => False
  | none => False
theorem tst_mk (q : Q) (e : Env) (K : Bool × Env → Prop) : tst (q, e) K = match q.get e with
  | some d => match truth d with
    | some k => K (k, e)
    | none => False
  | none => False := rfl
theorem wp_test1 (x : R (Q × Env)) (K : Bool × Env → Prop) (X : Nat → D → Env → Prop) : R.wp (test1 x) K X = R.wp x (fun p => tst p K) X := by
  cases x with
  | ok p =>
    obtain ⟨q, e⟩ := p
    show R.wp (match q.get e with | some d => (match truth d with | some k => R.ok (k, e) | none => .stuck) | none => .stuck) K X = match q.get e with | some d => (match truth d with | some k => K (k, e) | none => False) | none => False
    cases q.get e with
    | none => rfl
    | some d =>
      dsimp only
      cases truth d <;> rfl
  | exc c d e => rfl
  | stuck => rfl
theorem wp_mono {α : Type} {x : R α} {K K' : α → Prop} {X X' : Nat → D → Env → Prop} (h : R.wp x K X) (k : ∀ a, K a → K' a) (l : ∀ c d e, X c d e → X' c d e) : R.wp x K' X' := by
  cases x with
  | ok a => exact k a h
  | exc c d e => exact l c d e h
  | stuck => exact h
theorem wo_mono {x : O} {P P' : Po} (h : x.wp P) (k1 : ∀ e, P.nx e → P'.nx e) (k2 : ∀ m e, P.rt m e → P'.rt m e) (k3 : ∀ e, P.bk e → P'.bk e) (k4 : ∀ e, P.ct e → P'.ct e) (k5 : ∀ c d e, P.ex c d e → P'.ex c d e) : x.wp P' := by
  cases x with
  | nx e => exact k1 _ h
  | rt m e => exact k2 _ _ h
  | bk e => exact k3 _ h
  | ct e => exact k4 _ h
  | exc c d e => exact k5 _ _ _ h
  | stuck => exact h
theorem wp_eq {α : Type} {x : R α} {K : α → Prop} (h : R.wp x K fun _ _ _ => False) : ∃ a, x = .ok a ∧ K a := by
  cases x with
  | ok a => exact ⟨a, rfl, h⟩
  | exc c d e => exact h.elim
  | stuck => exact h.elim
/-- a for -/
theorem for_wp {t : T} {w : W} {fb : Env → O} {ds : List D} (I : Nat → Env → Prop) (hw : ∀ k e, I k e → w.at e k = some ds[k]?)
    (step : ∀ k e d, I k e → ds[k]? = some d → ∃ e1, t.put (some (.val d)) e = some e1 ∧ (fb e1).wp ⟨I (k + 1), P.rt, P.nx, I (k + 1), P.ex⟩) (fin : ∀ e, I ds.length e → P.nx e) :
    ∀ (n k : Nat) (e : Env), I k e → k ≤ ds.length → ds.length < k + n → (forF t w fb n k e).wp P
  | 0, k, e, _, h1, h2 => by omega
  | n + 1, k, e, i, h1, h2 => by
    rw [forF, hw k e i]
    cases ek : ds[k]? with
    | none =>
      have : ds.length ≤ k := List.getElem?_eq_none_iff.mp ek
      have : k = ds.length := by omega
      subst this
      exact fin e i
    | some d =>
      have hk : k < ds.length := (List.getElem?_eq_some_iff.mp ek).1
      obtain ⟨e1, a1, a2⟩ := step k e d i ek
      dsimp only
      rw [a1]
      dsimp only
      cases eb : fb e1 with
      | nx e2 => rw [eb] at a2; exact for_wp I hw step fin n (k + 1) e2 a2 (by omega) (by omega)
      | ct e2 => rw [eb] at a2; exact for_wp I hw step fin n (k + 1) e2 a2 (by omega) (by omega)
      | bk e2 => rw [eb] at a2; exact a2
      | rt m e2 => rw [eb] at a2; exact a2
      | exc c d e2 => rw [eb] at a2; exact a2
      | stuck => rw [eb] at a2; exact a2.elim
/-- a comprehension whose parts change what is drawn -/
theorem comp_wp {t : T} {own : List Nat} {w : W} {fc fe : Env → R (Q × Env)} {ds : List D} (I : Nat → List D → Env → Prop) (hw : ∀ k acc e, I k acc e → w.at e k = some ds[k]?) (hl : ds.length ≤ maxLen)
    (step : ∀ k acc e d, I k acc e → ds[k]? = some d → ∃ e1, t.put (some (.val d)) e = some e1 ∧ R.wp (fc e1) (fun p => (p.1 = .mv (.val (.bl true)) ∧ R.wp (fe p.2) (fun q => ∃ x, q.1.keep = some x ∧ I (k + 1) (acc ++ [x]) (wipe q.2 own)) fun _ _ _ => False) ∨
      (p.1 = .mv (.val (.bl false)) ∧ I (k + 1) acc (wipe p.2 own))) fun _ _ _ => False) :
    ∀ (n k : Nat) (acc : List D) (e : Env), I k acc e → k ≤ ds.length → ds.length < k + n → acc.length ≤ k → ∃ acc' e', compF t own w fc fe n k acc e = .ok (acc', e') ∧ I ds.length acc' e' ∧ acc'.length ≤ ds.length
  | 0, k, acc, e, _, h1, h2, _ => by omega
  | n + 1, k, acc, e, i, h1, h2, h3 => by
    rw [compF, hw k acc e i]
    cases ek : ds[k]? with
    | none =>
      have : ds.length ≤ k := List.getElem?_eq_none_iff.mp ek
      have : k = ds.length := by omega
      subst this
      exact ⟨acc, e, rfl, i, h3⟩
    | some d =>
      have hk : k < ds.length := (List.getElem?_eq_some_iff.mp ek).1
      obtain ⟨e1, a1, a2⟩ := step k acc e d i ek
      dsimp only
      rw [a1]
      dsimp only
      obtain ⟨⟨q, e2⟩, b1, b2⟩ := wp_eq a2
      rw [b1]
      rcases b2 with ⟨b2, b3⟩ | ⟨b2, b3⟩
      · dsimp only at b2
        subst b2
        dsimp only
        obtain ⟨⟨q3, e3⟩, c1, x, c2, c3⟩ := wp_eq b3
        rw [c1]
        dsimp only at c2 ⊢
        rw [c2]
        dsimp only
        rw [if_pos (by omega)]
        exact comp_wp I hw hl step n (k + 1) _ _ c3 (by omega) (by omega) (by rw [List.length_append]; simp; omega)
      · dsimp only at b2
        subst b2
        dsimp only
        exact comp_wp I hw hl step n (k + 1) _ _ b3 (by omega) (by omega) (by omega)
/-- a while -/
theorem wh_wp {fc : Env → R (Bool × Env)} {fb : Env → O} (I : Env → Prop) (μ : Env → Nat)
    (step : ∀ e, I e → R.wp (fc e) (fun p => (p.1 = true → (fb p.2).wp ⟨fun e2 => I e2 ∧ μ e2 < μ e, P.rt, P.nx, fun e2 => I e2 ∧ μ e2 < μ e, P.ex⟩) ∧ (p.1 = false → P.nx p.2)) P.ex) :
    ∀ (n : Nat) (e : Env), I e → μ e < n → (whF fc fb n e).wp P
  | 0, e, _, h => by omega
  | n + 1, e, i, h => by
    rw [whF]
    have s := step e i
    cases ec : fc e with
    | stuck => rw [ec] at s; exact s
    | exc c d e1 => rw [ec] at s; exact s
    | ok p =>
      obtain ⟨b, e1⟩ := p
      rw [ec] at s
      cases b with
      | false => exact s.2 rfl
      | true =>
        have s2 := s.1 rfl
        dsimp only at s2 ⊢
        cases eb : fb e1 with
        | nx e2 => rw [eb] at s2; exact wh_wp I μ step n e2 s2.1 (by have := s2.2; omega)
        | ct e2 => rw [eb] at s2; exact wh_wp I μ step n e2 s2.1 (by have := s2.2; omega)
        | bk e2 => rw [eb] at s2; exact s2
        | rt m e2 => rw [eb] at s2; exact s2
        | exc c d e2 => rw [eb] at s2; exact s2
        | stuck => rw [eb] at s2; exact s2.elim
end
/-! ### defs -/
/-- a measure: the first number of an own list -/
def headN (i : Nat) (env : Env) : Nat := match slot i env with
  | some (.own _ (.int s :: _)) => s.toNat + 2
  | _ => 2
/-- the defs by their numbers -/
def rs : List (Nat × (List M → RF)) → Fs
  | [], _ => fun _ => .stuck
  | (j, m) :: l, i => bif Nat.beq j i then m else rs l i
def RF.wp (x : RF) (K : M → List M → Prop) (X : Nat → D → Prop) : Prop := match x with
  | .ok m ms => K m ms
  | .exc c d => X c d
  | .stuck => False
theorem fn_wp {r : Fs} {np n : Nat} {b : Ss} {ms : List M} {K : M → List M → Prop} {X : Nat → D → Prop} (h1 : ms.all lentOk = true) (h2 : ms.length = np)
    (h : (denSs r b (ms.map some ++ List.replicate (n - ms.length) none)).wp ⟨fun e => ∃ ms', lentBack ms e = some ms' ∧ K (.val .non) ms', fun m e => ∃ ms', lentBack ms e = some ms' ∧ K m ms', fun _ => False, fun _ => False, fun c d _ => X c d⟩) : (denF r np n b ms).wp K X := by
  unfold denF
  rw [if_pos ⟨h1, h2⟩]
  cases e : denSs r b (ms.map some ++ List.replicate (n - ms.length) none) with
  | nx e1 =>
    rw [e] at h
    obtain ⟨ms', a, b⟩ := h
    dsimp only
    rw [a]
    exact b
  | rt m e1 =>
    rw [e] at h
    obtain ⟨ms', a, b⟩ := h
    dsimp only
    rw [a]
    exact b
  | bk e1 => rw [e] at h; exact h.elim
  | ct e1 => rw [e] at h; exact h.elim
  | exc c d e1 => rw [e] at h; exact h
  | stuck => rw [e] at h; exact h.elim
theorem rf_eq {x : RF} {K : M → List M → Prop} (h : x.wp K fun _ _ => False) : ∃ m ms, x = .ok m ms ∧ K m ms := by
  cases x with
  | ok m ms => exact ⟨m, ms, rfl, h⟩
  | exc c d => exact h.elim
  | stuck => exact h.elim
section
variable {r : Fs} {env : Env} {f : Nat}
/-- a call with values alone -/
theorem call1 {d : D} {v : D} (h : r f [.val d] = .ok (.val v) [.val d]) : callF r f [.mv (.val d)] env = .ok (.mv (.val v), env) := by simp [callF, lend, refs, h, unlend]
theorem call1o {xs : List D} {v : D} (h : r f [.val (.lst xs)] = .ok (.val v) [.val (.lst xs)]) : callF r f [.mv (.own false xs)] env = .ok (.mv (.val v), env) := by simp [callF, lend, refs, h, unlend]
theorem call2 {d e v : D} (h : r f [.val d, .val e] = .ok (.val v) [.val d, .val e]) : callF r f [.mv (.val d), .mv (.val e)] env = .ok (.mv (.val v), env) := by simp [callF, lend, refs, h, unlend]
theorem call3 {d e g v : D} (h : r f [.val d, .val e, .val g] = .ok (.val v) [.val d, .val e, .val g]) : callF r f [.mv (.val d), .mv (.val e), .mv (.val g)] env = .ok (.mv (.val v), env) := by simp [callF, lend, refs, h, unlend]
theorem call1x {d v : D} {c : Nat} (h : r f [.val d] = .exc c v) : callF r f [.mv (.val d)] env = .exc c v env := by simp [callF, lend, refs, h, drop]
theorem call2x {d e v : D} {c : Nat} (h : r f [.val d, .val e] = .exc c v) : callF r f [.mv (.val d), .mv (.val e)] env = .exc c v env := by simp [callF, lend, refs, h, drop]
end
/-! ### draws -/
/-- a deal as it may be -/
def Dealt (b : Nat × List Int) (s : Int) : Prop := (0 ≤ s ∧ s < 2147483647) ∧ b.2.length ≤ 1000
theorem strip0_len : ∀ xs : List Int, (strip0 xs).length ≤ xs.length
  | [] => Nat.le_refl _
  | x :: xs => by
    unfold strip0
    split
    · exact Nat.le_trans (strip0_len xs) (Nat.le_succ _)
    · exact Nat.le_refl _
theorem anyR_ok {b : Nat × List Int} {s n : Int} (h : Dealt b s) (hn : 0 < n) : Dealt (b.1, (anyR b.2.reverse s n).2.1.reverse) (anyR b.2.reverse s n).2.2 ∧ 0 ≤ (anyR b.2.reverse s n).1 ∧ (anyR b.2.reverse s n).1 < n := by
  have l := strip0_len b.2.reverse
  rw [List.length_reverse] at l
  unfold anyR
  split
  · rename_i x r' e
    rw [e] at l
    refine ⟨⟨h.1, ?_⟩, Int.emod_nonneg _ (by omega), Int.emod_lt_of_pos _ hn⟩
    have := h.2
    rw [List.length_reverse, List.length_cons]
    rw [List.length_cons] at l
    omega
  · refine ⟨⟨⟨Int.emod_nonneg _ (by decide), Int.emod_lt_of_pos _ (by decide)⟩, by simp⟩, Int.emod_nonneg _ (by omega), Int.emod_lt_of_pos _ hn⟩
/-- what _law_any gives -/
theorem any_wp {b : Nat × List Int} {s n : Int} (h : Dealt b s) (hn : 0 < n) (hs : n.natAbs.log2 < 9000) : (anyF [.deal true b s, .val (.int n)]).wp (fun m ms => ∃ i b' s', m = .val (.int i) ∧ ms = [.deal true b' s', .val (.int n)] ∧ b'.1 = b.1 ∧ Dealt b' s' ∧ 0 ≤ i ∧ i < n) fun _ _ => False := by
  obtain ⟨h1, h2, h3⟩ := anyR_ok h hn
  show RF.wp (if (0 < n ∧ n.natAbs.log2 < 9000) ∧ (0 ≤ s ∧ s < 2147483647) ∧ b.2.length ≤ 1000 then _ else RF.stuck) _ _
  rw [if_pos ⟨⟨hn, hs⟩, h.1, h.2⟩]
  exact ⟨_, _, _, rfl, rfl, rfl, h1, h2, h3⟩
section
variable {r : Fs} {env : Env} {f i : Nat} {K : Q × Env → Prop} {X : Nat → D → Env → Prop} {io : Bool} {b : Nat × List Int} {s : Int}
/-- a call that draws: f(deal) -/
theorem call_d {Po : D → Prop} (hs : slot i env = some (.deal io b s)) (h : (r f [.deal true b s]).wp (fun m ms => ∃ d b' s', m = .val d ∧ ms = [.deal true b' s'] ∧ b'.1 = b.1 ∧ Dealt b' s' ∧ Po d) fun _ _ => False)
    (k : ∀ d b' s', b'.1 = b.1 → Dealt b' s' → Po d → K (.mv (.val d), env.set i (some (.deal io b' s')))) : R.wp (callF r f [.ref i] env) K X := by
  obtain ⟨m, ms, e, d, b', s', rfl, rfl, e1, hd, hp⟩ := rf_eq h
  have : callF r f [.ref i] env = .ok (.mv (.val d), env.set i (some (.deal io b' s'))) := by simp [callF, lend, refs, hs, e, unlend, relent, e1]
  rw [this]
  exact k d b' s' e1 hd hp
/-- f(deal, d) -/
theorem call_dv {Po : D → Prop} {a : D} (hs : slot i env = some (.deal io b s)) (h : (r f [.deal true b s, .val a]).wp (fun m ms => ∃ d b' s', m = .val d ∧ ms = [.deal true b' s', .val a] ∧ b'.1 = b.1 ∧ Dealt b' s' ∧ Po d) fun _ _ => False)
    (k : ∀ d b' s', b'.1 = b.1 → Dealt b' s' → Po d → K (.mv (.val d), env.set i (some (.deal io b' s')))) : R.wp (callF r f [.ref i, .mv (.val a)] env) K X := by
  obtain ⟨m, ms, e, d, b', s', rfl, rfl, e1, hd, hp⟩ := rf_eq h
  have : callF r f [.ref i, .mv (.val a)] env = .ok (.mv (.val d), env.set i (some (.deal io b' s'))) := by simp [callF, lend, refs, hs, e, unlend, relent, e1]
  rw [this]
  exact k d b' s' e1 hd hp
/-- f(deal, [..]) -/
theorem call_dl {Po : D → Prop} {xs : List D} (hs : slot i env = some (.deal io b s)) (h : (r f [.deal true b s, .val (.lst xs)]).wp (fun m ms => ∃ d b' s', m = .val d ∧ ms = [.deal true b' s', .val (.lst xs)] ∧ b'.1 = b.1 ∧ Dealt b' s' ∧ Po d) fun _ _ => False)
    (k : ∀ d b' s', b'.1 = b.1 → Dealt b' s' → Po d → K (.mv (.val d), env.set i (some (.deal io b' s')))) : R.wp (callF r f [.ref i, .mv (.own false xs)] env) K X := by
  obtain ⟨m, ms, e, d, b', s', rfl, rfl, e1, hd, hp⟩ := rf_eq h
  have : callF r f [.ref i, .mv (.own false xs)] env = .ok (.mv (.val d), env.set i (some (.deal io b' s'))) := by simp [callF, lend, refs, hs, e, unlend, relent, e1]
  rw [this]
  exact k d b' s' e1 hd hp
/-- _law_any(deal, n), whatever it gives -/
theorem call_any {n : Int} (hf : r f = anyF) (hs : slot i env = some (.deal io b s)) (hd : Dealt b s) (hn : 0 < n) (hl : n.natAbs.log2 < 9000)
    (k : ∀ j b' s', b'.1 = b.1 → Dealt b' s' → 0 ≤ j → j < n → K (.mv (.val (.int j)), env.set i (some (.deal io b' s')))) : R.wp (callF r f [.ref i, .mv (.val (.int n))] env) K X :=
  call_dv (Po := fun d => ∃ j, d = .int j ∧ 0 ≤ j ∧ j < n) hs (by
    rw [hf]
    obtain ⟨m, ms, e, j, b', s', rfl, rfl, e1, h1, h2, h3⟩ := rf_eq (any_wp hd hn hl)
    rw [e]
    exact ⟨_, _, _, rfl, rfl, e1, h1, j, rfl, h2, h3⟩) fun d b' s' e1 h1 ⟨j, e, h2, h3⟩ => by
    subst e
    exact k j b' s' e1 h1 h2 h3
end
/-! ### ints, compared -/
theorem v_eqI (i j : Int) : evalOp .eq [.int i, .int j] = some (.val (.bl (decide (i = j)))) := by
  rw [v_eq]
  simp only [D.flat, Bool.and_self, if_true, D.eqv]
  by_cases h : i = j <;> simp [h]
theorem v_neI (i j : Int) : evalOp .ne [.int i, .int j] = some (.val (.bl (!decide (i = j)))) := by
  rw [v_ne]
  simp only [D.flat, Bool.and_self, if_true, D.eqv]
  by_cases h : i = j <;> simp [h]
section
variable {r : Fs} {env : Env} {K : Q × Env → Prop} {X : Nat → D → Env → Prop} {P : Po}
theorem wp_ext {α : Type} {x : R α} {K K' : α → Prop} {X : Nat → D → Env → Prop} (h : ∀ a, K a = K' a) : R.wp x K X = R.wp x K' X := by
  have : K = K' := funext h
  subst this
  rfl
theorem w_op (o : Op) (es : Es) : R.wp (denG r (.op o es) false env) K X = R.wp (denEs r es env) (fun p => R.wp (match gets p.2 p.1 with
    | some ds => match evalOp o ds with
      | some z => .ok (.mv z.m, p.2)
      | none => .stuck
    | none => .stuck) K X) X := by rw [q_op, wp_bind]; try rfl
theorem w_call (f : Nat) (es : Es) : R.wp (denG r (.call f es) false env) K X = R.wp (denEs r es env) (fun p => R.wp (callF r f p.1 p.2) K X) X := by rw [q_call, wp_bind]
theorem w_callK (f : Nat) (ks : List Nat) (es : Es) : R.wp (denG r (.callK f ks es) false env) K X = R.wp (denKs r es env) (fun p => R.wp (callF r f ((order D.non ks p.1).map asQ) p.2) K X) X := by rw [q_callK, wp_bind]
theorem w_tup (es : Es) : R.wp (denG r (.tup es) false env) K X = R.wp (denKs r es env) (fun p => R.wp (if p.1.length ≤ maxLen then .ok (.mv (.val (.tup p.1)), p.2) else .stuck) K X) X := by rw [q_tup, wp_bind]
theorem w_lst (es : Es) : R.wp (denG r (.lst es) false env) K X = R.wp (denKs r es env) (fun p => R.wp (if p.1.length ≤ maxLen then .ok (.mv (.own false p.1), p.2) else .stuck) K X) X := by rw [q_lst, wp_bind]
theorem w_ite (c a b : E) : R.wp (denG r (.ite c a b) false env) K X = R.wp (denT r c env) (fun p => if p.1 then R.wp (denG r a false p.2) K X else R.wp (denG r b false p.2) K X) X := by
  rw [q_ite, wp_bind]
  refine wp_ext fun p => ?_
  exact wp_ite ..
theorem w_es_nil {L : List Q × Env → Prop} : R.wp (denEs r .nil env) L X = L ([], env) := by rw [es_nil, wp_ok]
theorem w_es {L : List Q × Env → Prop} (e : E) (es : Es) : R.wp (denEs r (.cons e es) env) L X = R.wp (denG r e false env) (fun p => R.wp (denEs r es p.2) (fun ps => L (p.1 :: ps.1, ps.2)) X) X := by
  rw [es_cons, wp_bind]
  refine wp_ext fun p => ?_
  rw [wp_bind]
  rfl
theorem w_ks_nil {L : List D × Env → Prop} : R.wp (denKs r .nil env) L X = L ([], env) := by rw [ks_nil, wp_ok]
/-- a value to be keptQ, and then -/
def keptQ (q : Q) (L : D → Prop) : Prop := match q.keep with
  | some d => L d
  | none => False
theorem keptQ_val (d : D) (L : D → Prop) : keptQ (.mv (.val d)) L = L d := rfl
theorem keptQ_new (xs : List D) (L : D → Prop) : keptQ (.mv (.own false xs)) L = L (.lst xs) := rfl
theorem w_ks {L : List D × Env → Prop} (e : E) (es : Es) : R.wp (denKs r (.cons e es) env) L X = R.wp (denG r e false env) (fun p => keptQ p.1 fun d => R.wp (denKs r es p.2) (fun ps => L (d :: ps.1, ps.2)) X) X := by
  rw [ks_cons, wp_bind]
  refine wp_ext fun p => ?_
  unfold keptQ
  cases p.1.keep with
  | none => rfl
  | some d =>
    dsimp only
    rw [wp_bind]
    rfl
theorem w_and (a b : E) {L : Bool × Env → Prop} : R.wp (denT r (.and a b) env) L X = R.wp (denT r a env) (fun p => if p.1 then R.wp (denT r b p.2) L X else L (false, p.2)) X := by
  rw [t_and, wp_bind]
  refine wp_ext fun p => ?_
  rw [wp_ite]
  rfl
theorem w_or (a b : E) {L : Bool × Env → Prop} : R.wp (denT r (.or a b) env) L X = R.wp (denT r a env) (fun p => if p.1 then L (true, p.2) else R.wp (denT r b p.2) L X) X := by
  rw [t_or, wp_bind]
  refine wp_ext fun p => ?_
  rw [wp_ite]
  rfl
theorem w_not (a : E) {L : Bool × Env → Prop} : R.wp (denT r (.not a) env) L X = R.wp (denT r a env) (fun p => L (!p.1, p.2)) X := by
  rw [t_not, wp_bind]
  rfl
theorem w_top (o : Op) (es : Es) {L : Bool × Env → Prop} : R.wp (denT r (.op o es) env) L X = R.wp (denG r (.op o es) false env) (fun p => tst p L) X := by rw [t_op, wp_test1]
theorem w_tvar (i : Nat) {L : Bool × Env → Prop} : R.wp (denT r (.var i) env) L X = R.wp (denG r (.var i) false env) (fun p => tst p L) X := by rw [t_var, wp_test1]
theorem w_tcall (f : Nat) (es : Es) {L : Bool × Env → Prop} : R.wp (denT r (.call f es) env) L X = R.wp (denG r (.call f es) false env) (fun p => tst p L) X := by rw [t_call, wp_test1]
theorem w_tcallK (f : Nat) (ks : List Nat) (es : Es) {L : Bool × Env → Prop} : R.wp (denT r (.callK f ks es) env) L X = R.wp (denG r (.callK f ks es) false env) (fun p => tst p L) X := by rw [t_callK, wp_test1]
theorem w_teqR (k : Bool) (a b : E) {L : Bool × Env → Prop} : R.wp (denT r (.eqR k a b) env) L X = R.wp (denG r (.eqR k a b) false env) (fun p => tst p L) X := by rw [t_eqR, wp_test1]
/-- statements -/
theorem w_asg (t : T) (e : E) : O.wp (denS r (.asg t e) env) P = R.wp (denG r e false env) (fun p => O.wp (O.of (t.put p.1.take p.2)) P) P.ex := by rw [s_asg, wp_o]
theorem w_ret (e : E) : O.wp (denS r (.ret e) env) P = R.wp (denG r e false env) (fun p => O.wp (match p.1.give p.2 with
    | some (m, e2) => .rt m e2
    | none => .stuck) P) P.ex := by rw [s_ret, wp_o]; try rfl
theorem w_site (c : E) (a b : Ss) : O.wp (denS r (.ite c a b) env) P = R.wp (denT r c env) (fun p => if p.1 then O.wp (denSs r a p.2) P else O.wp (denSs r b p.2) P) P.ex := by
  rw [s_ite, wp_o]
  refine wp_ext fun p => ?_
  exact wo_ite ..
theorem w_expr (e : E) : O.wp (denS r (.expr e) env) P = R.wp (denG r e false env) (fun p => P.nx p.2) P.ex := by rw [s_expr, wp_o]; try rfl
theorem w_par (is : List Nat) (es : Es) : O.wp (denS r (.par is es) env) P = R.wp (denEs r es env) (fun p => O.wp (match takes p.1 with
    | some ms => O.of (putM is ms p.2)
    | none => .stuck) P) P.ex := by rw [s_par, wp_o]; try rfl
theorem w_eqR (k : Bool) (a b : E) : R.wp (denG r (.eqR k a b) false env) K X = R.wp (denG r a false env) (fun x => keptQ x.1 fun d => if d.showOk = true then R.wp (denG r b false x.2) (fun y => keptQ y.1 fun e => if d.same e = true then K (.mv (.val (.bl k)), y.2) else False) X else False) X := by
  rw [q_eqR, wp_bind]
  refine wp_ext fun x => ?_
  unfold keptQ
  cases x.1.keep with
  | none => rfl
  | some d =>
    dsimp only
    rw [wp_ite]
    cases d.showOk with
    | false => rfl
    | true =>
      simp only [if_true]
      rw [wp_bind]
      refine wp_ext fun y => ?_
      cases y.1.keep with
      | none => rfl
      | some e =>
        dsimp only
        rw [wp_ite]
        rfl
end
local macro_rules
  | `(tactic| simp_arith!) => `(tactic| simp (config := { dsimp := false, implicitDefEqProofs := false }) only [↓wp_bind, ↓wp_o, ↓wo_cons, ↓wp_test1, ↓wp_ok, ↓w_op, ↓w_call, ↓w_callK, ↓w_tup, ↓w_lst, ↓w_ite, ↓w_es_nil, ↓w_es, ↓w_ks_nil, ↓w_ks, keptQ_val, keptQ_new, ↓w_and, ↓w_or, ↓w_not, ↓w_top, ↓w_tvar, ↓w_tcall, ↓w_tcallK, ↓w_teqR, ↓w_asg, ↓w_ret, ↓w_site, ↓w_expr, ↓w_par, ↓w_eqR, slot_z, slot_1, slot_2, slot_3, slot_4, slot_5, slot_6, slot_7, slot_8, slot_9, slot_10, slot_11, slot_12, q_var, q_frz, q_cst, q_op, q_call, q_callK, q_tup, q_lst, q_ite, q_and, q_or, q_not, q_chain, q_pop, q_exAt, es_nil, es_cons, ks_nil, ks_cons, t_and, t_or, t_not, t_op, t_var, t_call, t_callK, t_chain, t_cst, t_eqR, q_eqR, c_yes, c_one, b_ok, b_exc, o_ok, o_exc, of_some, g_val, g_new, g_ref, gs_nil, gs_cons, k_val, k_new, tk_val, tk_new, tk_deal, gv_val, gv_new, gv_ref, m_val, m_new, p_nm, p_tp, p_tpp, putD_nil, putD_cons, putM_nil, putM_cons, put_def, free_def, ts_nil, ts_cons, t1_ok, t1_exc, tr_bl, tr_non, ss_nil, s_asg, s_par, s_aug, s_app, s_ext, s_pop, s_expr, s_doc, s_ret, s_retN, s_pass, s_brk, s_cnt, s_ite, s_raise, s_setix, s_ins, i_seq, i_rg1, i_rg2, i_enum, i_zip, i_rev, sq_lst, sq_tup, wl_vs, v_add, v_sub, v_neg, v_lt, v_le, v_gt, v_ge, v_isN, v_notN, v_isB, v_notB, v_rev, v_lenL, v_lenT, v_abs, v_int, v_listL, v_listT, v_tupleL, v_tupleT, v_max2, v_min2, v_isa, Option.bind_some, List.set_cons_zero, List.set_cons_succ, List.length_cons, List.length_nil, if_true, if_false, reduceIte, Bool.false_eq_true, Bool.true_eq_false, decide_true, decide_false, isOwn, wp_ok, wp_exc, wp_bind, wp_o, wp_ite, wo_ite, wo_nx, wo_rt, wo_bk, wo_ct, wo_exc, wo_cons, wp_test1, tst_mk, v_eqI, v_neI, decide_eq_true_eq, Bool.not_eq_true', decide_eq_false_iff_not, Nat.reduceAdd, Nat.reduceLT, Nat.reduceLeDiff, Nat.zero_add, and_true, true_and])
  | `(tactic| simp_arith! [$ls,*]) => `(tactic| simp (config := { dsimp := false, implicitDefEqProofs := false }) only [↓wp_bind, ↓wp_o, ↓wo_cons, ↓wp_test1, ↓wp_ok, ↓w_op, ↓w_call, ↓w_callK, ↓w_tup, ↓w_lst, ↓w_ite, ↓w_es_nil, ↓w_es, ↓w_ks_nil, ↓w_ks, keptQ_val, keptQ_new, ↓w_and, ↓w_or, ↓w_not, ↓w_top, ↓w_tvar, ↓w_tcall, ↓w_tcallK, ↓w_teqR, ↓w_asg, ↓w_ret, ↓w_site, ↓w_expr, ↓w_par, ↓w_eqR, slot_z, slot_1, slot_2, slot_3, slot_4, slot_5, slot_6, slot_7, slot_8, slot_9, slot_10, slot_11, slot_12, q_var, q_frz, q_cst, q_op, q_call, q_callK, q_tup, q_lst, q_ite, q_and, q_or, q_not, q_chain, q_pop, q_exAt, es_nil, es_cons, ks_nil, ks_cons, t_and, t_or, t_not, t_op, t_var, t_call, t_callK, t_chain, t_cst, t_eqR, q_eqR, c_yes, c_one, b_ok, b_exc, o_ok, o_exc, of_some, g_val, g_new, g_ref, gs_nil, gs_cons, k_val, k_new, tk_val, tk_new, tk_deal, gv_val, gv_new, gv_ref, m_val, m_new, p_nm, p_tp, p_tpp, putD_nil, putD_cons, putM_nil, putM_cons, put_def, free_def, ts_nil, ts_cons, t1_ok, t1_exc, tr_bl, tr_non, ss_nil, s_asg, s_par, s_aug, s_app, s_ext, s_pop, s_expr, s_doc, s_ret, s_retN, s_pass, s_brk, s_cnt, s_ite, s_raise, s_setix, s_ins, i_seq, i_rg1, i_rg2, i_enum, i_zip, i_rev, sq_lst, sq_tup, wl_vs, v_add, v_sub, v_neg, v_lt, v_le, v_gt, v_ge, v_isN, v_notN, v_isB, v_notB, v_rev, v_lenL, v_lenT, v_abs, v_int, v_listL, v_listT, v_tupleL, v_tupleT, v_max2, v_min2, v_isa, Option.bind_some, List.set_cons_zero, List.set_cons_succ, List.length_cons, List.length_nil, if_true, if_false, reduceIte, Bool.false_eq_true, Bool.true_eq_false, decide_true, decide_false, isOwn, wp_ok, wp_exc, wp_bind, wp_o, wp_ite, wo_ite, wo_nx, wo_rt, wo_bk, wo_ct, wo_exc, wo_cons, wp_test1, tst_mk, v_eqI, v_neI, decide_eq_true_eq, Bool.not_eq_true', decide_eq_false_iff_not, Nat.reduceAdd, Nat.reduceLT, Nat.reduceLeDiff, Nat.zero_add, and_true, true_and, $ls,*])
end Rx

/-! RxTx -/
/-! RxTx: the texts of defs that many laws share (printed). -/
set_option linter.all false
set_option maxRecDepth 100000
namespace Rx
open PySem (Str)
local macro_rules
  | `(tactic| simp!) => `(tactic| simp only [slot_z, slot_1, slot_2, slot_3, slot_4, slot_5, slot_6, slot_7, slot_8, slot_9, slot_10, slot_11, slot_12, q_var, q_frz, q_cst, q_op, q_call, q_callK, q_tup, q_lst, q_ite, q_and, q_or, q_not, q_chain, q_pop, q_exAt, es_nil, es_cons, ks_nil, ks_cons, t_and, t_or, t_not, t_op, t_var, t_call, t_callK, t_chain, t_cst, c_yes, c_one, b_ok, b_exc, o_ok, o_exc, of_some, g_val, g_new, g_ref, gs_nil, gs_cons, k_val, k_new, tk_val, tk_new, tk_deal, gv_val, gv_new, gv_ref, m_val, m_new, p_nm, p_tp, p_tpp, putD_nil, putD_cons, putM_nil, putM_cons, put_def, free_def, ts_nil, ts_cons, t1_ok, t1_exc, tr_bl, tr_non, ss_nil, ss_cons, s_asg, s_par, s_aug, s_app, s_ext, s_pop, s_expr, s_doc, s_ret, s_retN, s_pass, s_brk, s_cnt, s_ite, s_raise, s_setix, s_ins, i_seq, i_rg1, i_rg2, i_enum, i_zip, i_rev, sq_lst, sq_tup, wl_vs, v_add, v_sub, v_neg, v_lt, v_le, v_gt, v_ge, v_isN, v_notN, v_isB, v_notB, v_rev, v_lenL, v_lenT, v_abs, v_int, v_listL, v_listT, v_tupleL, v_tupleT, v_max2, v_min2, v_isa, Option.bind_some, List.set_cons_zero, List.set_cons_succ, List.length_cons, List.length_nil, if_true, if_false, reduceIte, Bool.false_eq_true, decide_true, decide_false, isOwn])
  | `(tactic| simp! [$ls,*]) => `(tactic| simp only [slot_z, slot_1, slot_2, slot_3, slot_4, slot_5, slot_6, slot_7, slot_8, slot_9, slot_10, slot_11, slot_12, q_var, q_frz, q_cst, q_op, q_call, q_callK, q_tup, q_lst, q_ite, q_and, q_or, q_not, q_chain, q_pop, q_exAt, es_nil, es_cons, ks_nil, ks_cons, t_and, t_or, t_not, t_op, t_var, t_call, t_callK, t_chain, t_cst, c_yes, c_one, b_ok, b_exc, o_ok, o_exc, of_some, g_val, g_new, g_ref, gs_nil, gs_cons, k_val, k_new, tk_val, tk_new, tk_deal, gv_val, gv_new, gv_ref, m_val, m_new, p_nm, p_tp, p_tpp, putD_nil, putD_cons, putM_nil, putM_cons, put_def, free_def, ts_nil, ts_cons, t1_ok, t1_exc, tr_bl, tr_non, ss_nil, ss_cons, s_asg, s_par, s_aug, s_app, s_ext, s_pop, s_expr, s_doc, s_ret, s_retN, s_pass, s_brk, s_cnt, s_ite, s_raise, s_setix, s_ins, i_seq, i_rg1, i_rg2, i_enum, i_zip, i_rev, sq_lst, sq_tup, wl_vs, v_add, v_sub, v_neg, v_lt, v_le, v_gt, v_ge, v_isN, v_notN, v_isB, v_notB, v_rev, v_lenL, v_lenT, v_abs, v_int, v_listL, v_listT, v_tupleL, v_tupleT, v_max2, v_min2, v_isa, Option.bind_some, List.set_cons_zero, List.set_cons_succ, List.length_cons, List.length_nil, if_true, if_false, reduceIte, Bool.false_eq_true, decide_true, decide_false, isOwn, $ls,*])
local macro_rules
  | `(tactic| simp_arith!) => `(tactic| simp (config := { dsimp := false, implicitDefEqProofs := false }) only [↓wp_bind, ↓wp_o, ↓wo_cons, ↓wp_test1, ↓wp_ok, ↓w_op, ↓w_call, ↓w_callK, ↓w_tup, ↓w_lst, ↓w_ite, ↓w_es_nil, ↓w_es, ↓w_ks_nil, ↓w_ks, keptQ_val, keptQ_new, ↓w_and, ↓w_or, ↓w_not, ↓w_top, ↓w_tvar, ↓w_tcall, ↓w_tcallK, ↓w_teqR, ↓w_asg, ↓w_ret, ↓w_site, ↓w_expr, ↓w_par, ↓w_eqR, slot_z, slot_1, slot_2, slot_3, slot_4, slot_5, slot_6, slot_7, slot_8, slot_9, slot_10, slot_11, slot_12, q_var, q_frz, q_cst, q_op, q_call, q_callK, q_tup, q_lst, q_ite, q_and, q_or, q_not, q_chain, q_pop, q_exAt, es_nil, es_cons, ks_nil, ks_cons, t_and, t_or, t_not, t_op, t_var, t_call, t_callK, t_chain, t_cst, t_eqR, q_eqR, c_yes, c_one, b_ok, b_exc, o_ok, o_exc, of_some, g_val, g_new, g_ref, gs_nil, gs_cons, k_val, k_new, tk_val, tk_new, tk_deal, gv_val, gv_new, gv_ref, m_val, m_new, p_nm, p_tp, p_tpp, putD_nil, putD_cons, putM_nil, putM_cons, put_def, free_def, ts_nil, ts_cons, t1_ok, t1_exc, tr_bl, tr_non, ss_nil, s_asg, s_par, s_aug, s_app, s_ext, s_pop, s_expr, s_doc, s_ret, s_retN, s_pass, s_brk, s_cnt, s_ite, s_raise, s_setix, s_ins, i_seq, i_rg1, i_rg2, i_enum, i_zip, i_rev, sq_lst, sq_tup, wl_vs, v_add, v_sub, v_neg, v_lt, v_le, v_gt, v_ge, v_isN, v_notN, v_isB, v_notB, v_rev, v_lenL, v_lenT, v_abs, v_int, v_listL, v_listT, v_tupleL, v_tupleT, v_max2, v_min2, v_isa, Option.bind_some, List.set_cons_zero, List.set_cons_succ, List.length_cons, List.length_nil, if_true, if_false, reduceIte, Bool.false_eq_true, Bool.true_eq_false, decide_true, decide_false, isOwn, wp_ok, wp_exc, wp_bind, wp_o, wp_ite, wo_ite, wo_nx, wo_rt, wo_bk, wo_ct, wo_exc, wo_cons, wp_test1, tst_mk, v_eqI, v_neI, decide_eq_true_eq, Bool.not_eq_true', decide_eq_false_iff_not, Nat.reduceAdd, Nat.reduceLT, Nat.reduceLeDiff, Nat.zero_add, and_true, true_and])
  | `(tactic| simp_arith! [$ls,*]) => `(tactic| simp (config := { dsimp := false, implicitDefEqProofs := false }) only [↓wp_bind, ↓wp_o, ↓wo_cons, ↓wp_test1, ↓wp_ok, ↓w_op, ↓w_call, ↓w_callK, ↓w_tup, ↓w_lst, ↓w_ite, ↓w_es_nil, ↓w_es, ↓w_ks_nil, ↓w_ks, keptQ_val, keptQ_new, ↓w_and, ↓w_or, ↓w_not, ↓w_top, ↓w_tvar, ↓w_tcall, ↓w_tcallK, ↓w_teqR, ↓w_asg, ↓w_ret, ↓w_site, ↓w_expr, ↓w_par, ↓w_eqR, slot_z, slot_1, slot_2, slot_3, slot_4, slot_5, slot_6, slot_7, slot_8, slot_9, slot_10, slot_11, slot_12, q_var, q_frz, q_cst, q_op, q_call, q_callK, q_tup, q_lst, q_ite, q_and, q_or, q_not, q_chain, q_pop, q_exAt, es_nil, es_cons, ks_nil, ks_cons, t_and, t_or, t_not, t_op, t_var, t_call, t_callK, t_chain, t_cst, t_eqR, q_eqR, c_yes, c_one, b_ok, b_exc, o_ok, o_exc, of_some, g_val, g_new, g_ref, gs_nil, gs_cons, k_val, k_new, tk_val, tk_new, tk_deal, gv_val, gv_new, gv_ref, m_val, m_new, p_nm, p_tp, p_tpp, putD_nil, putD_cons, putM_nil, putM_cons, put_def, free_def, ts_nil, ts_cons, t1_ok, t1_exc, tr_bl, tr_non, ss_nil, s_asg, s_par, s_aug, s_app, s_ext, s_pop, s_expr, s_doc, s_ret, s_retN, s_pass, s_brk, s_cnt, s_ite, s_raise, s_setix, s_ins, i_seq, i_rg1, i_rg2, i_enum, i_zip, i_rev, sq_lst, sq_tup, wl_vs, v_add, v_sub, v_neg, v_lt, v_le, v_gt, v_ge, v_isN, v_notN, v_isB, v_notB, v_rev, v_lenL, v_lenT, v_abs, v_int, v_listL, v_listT, v_tupleL, v_tupleT, v_max2, v_min2, v_isa, Option.bind_some, List.set_cons_zero, List.set_cons_succ, List.length_cons, List.length_nil, if_true, if_false, reduceIte, Bool.false_eq_true, Bool.true_eq_false, decide_true, decide_false, isOwn, wp_ok, wp_exc, wp_bind, wp_o, wp_ite, wo_ite, wo_nx, wo_rt, wo_bk, wo_ct, wo_exc, wo_cons, wp_test1, tst_mk, v_eqI, v_neI, decide_eq_true_eq, Bool.not_eq_true', decide_eq_false_iff_not, Nat.reduceAdd, Nat.reduceLT, Nat.reduceLeDiff, Nat.zero_add, and_true, true_and, $ls,*])
/-- is_number: slots value; number 0 -/
def B_is_number : Ss := (.cons (.ret (.and (.op (.isa .tInt) (.cons (.var 0) .nil)) (.and (.not (.op (.isa .tBool) (.cons (.var 0) .nil))) (.op .ge (.cons (.var 0) (.cons (.cst (.int 0)) .nil)))))) .nil)
/-- is_tuple_of: slots value size; number 1 -/
def B_is_tuple_of : Ss := (.cons (.ret (.and (.op (.isa .tTuple) (.cons (.var 0) .nil)) (.op .eq (.cons (.op .len (.cons (.var 0) .nil)) (.cons (.var 1) .nil))))) .nil)
/-- is_ascending: slots values low high; number 2 -/
def B_is_ascending : Ss := (.cons (.ret (.op .all (.cons (.comp (.tp [1, 2]) [1, 2] (.zip (.frz 0) (.op (.sl true false) (.cons (.var 0) (.cons (.cst (.int 1)) .nil)))) .yes (.op .lt (.cons (.var 1) (.cons (.var 2) .nil)))) .nil))) .nil)
/-- is_run: slots value number; number 3 -/
def B_is_run : Ss := (.cons (.ret (.and (.call 1 (.cons (.frz 0) (.cons (.cst (.int 2)) .nil))) (.op .all (.cons (.comp (.nm 1) [1] (.seq (.var 0)) .yes (.and (.call 0 (.cons (.frz 1) .nil)) (.op .gt (.cons (.var 1) (.cons (.cst (.int 0)) .nil))))) .nil)))) .nil)
/-- has_form: slots value run; number 4 -/
def B_has_form : Ss := (.cons (.ite (.or (.not (.call 1 (.cons (.frz 0) (.cons (.cst (.int 2)) .nil)))) (.or (.not (.op (.isa .tTuple) (.cons (.op .ix (.cons (.var 0) (.cons (.cst (.int 0)) .nil))) .nil))) (.not (.call 0 (.cons (.op .ix (.cons (.var 0) (.cons (.cst (.int 1)) .nil))) .nil))))) (.cons (.ret (.cst (.bl false))) .nil) .nil) (.cons (.ret (.and (.op .all (.cons (.comp (.nm 1) [1] (.seq (.op .ix (.cons (.var 0) (.cons (.cst (.int 0)) .nil)))) .yes (.call 3 (.cons (.frz 1) .nil))) .nil)) (.or (.op .gt (.cons (.op .ix (.cons (.var 0) (.cons (.cst (.int 1)) .nil))) (.cons (.cst (.int 0)) .nil))) (.op .eq (.cons (.op .len (.cons (.op .ix (.cons (.var 0) (.cons (.cst (.int 0)) .nil))) .nil)) (.cons (.cst (.int 0)) .nil)))))) .nil))
def B_tells_1 : Ss := (.cons (.ite (.op .le (.cons (.var 2) (.cons (.op .add (.cons (.var 3) (.cons (.op .mul (.cons (.var 4) (.cons (.var 5) .nil))) .nil))) .nil))) (.cons (.ret (.op .eq (.cons (.op .mod (.cons (.op .sub (.cons (.var 2) (.cons (.var 3) .nil))) (.cons (.var 4) .nil))) (.cons (.cst (.int 0)) .nil)))) .nil) .nil) (.cons (.aug .add 3 (.op .mul (.cons (.var 4) (.cons (.var 5) .nil)))) .nil))
def B_tells_1t : Ss := (.cons (.ite (.op .eq (.cons (.var 1) (.cons (.cst (.int 0)) .nil))) (.cons (.ret (.op .eq (.cons (.var 2) (.cons (.var 3) .nil)))) .nil) .nil) (.cons (.ret (.op .eq (.cons (.op .mod (.cons (.op .sub (.cons (.var 2) (.cons (.var 3) .nil))) (.cons (.var 1) .nil))) (.cons (.cst (.int 0)) .nil)))) .nil))
/-- tells: slots runs end count base step times; number 5 -/
def B_tells : Ss := (.cons (.asg (.nm 3) (.cst (.int 0))) (.cons (.for_ (.tp [4, 5]) (.seq (.var 0)) B_tells_1) B_tells_1t))
/-- is_falling: slots value runs end rising run at; number 6 -/
def B_is_falling : Ss := (.cons (.ite (.not (.call 4 (.cons (.frz 0) .nil))) (.cons (.ret (.cst (.bl false))) .nil) .nil) (.cons (.asg (.tp [1, 2]) (.frz 0)) (.cons (.asg (.nm 3) (.op .add (.cons (.lst (.cons (.frz 2) .nil)) (.cons (.comp (.nm 4) [4] (.rev (.frz 1)) .yes (.op .ix (.cons (.var 4) (.cons (.cst (.int 0)) .nil)))) .nil)))) (.cons (.ite (.not (.call 2 (.cons (.frz 3) .nil))) (.cons (.ret (.cst (.bl false))) .nil) .nil) (.cons (.ret (.op .all (.cons (.comp (.tp [5, 4]) [5, 4] (.enum (.var 1)) .yes (.call 5 (.cons (.op (.sl true false) (.cons (.var 1) (.cons (.op .add (.cons (.var 5) (.cons (.cst (.int 1)) .nil))) .nil))) (.cons (.frz 2) (.cons (.op .ix (.cons (.var 4) (.cons (.cst (.int 0)) .nil))) .nil))))) .nil))) .nil)))))
/-- checked_falling: slots value at; number 7 -/
def B_checked_falling : Ss := (.cons (.ite (.not (.call 6 (.cons (.frz 0) .nil))) (.cons (.raise 4 (.frz 1)) .nil) .nil) (.cons (.ret (.var 0)) .nil))
/-- has: slots falling count runs end; number 8 -/
def B_has : Ss := (.cons (.asg (.tp [2, 3]) (.call 7 (Es.app (.cons (.frz 0) .nil) [.int 0]))) (.cons (.ret (.call 5 (.cons (.frz 2) (.cons (.frz 3) (.cons (.frz 1) .nil))))) .nil))
/-- _law_of: slots deal some; number 11 -/
def B__law_of : Ss := (.cons (.ret (.op .ix (.cons (.var 1) (.cons (.call 10 (.cons (.var 0) (.cons (.op .len (.cons (.var 1) .nil)) .nil))) .nil)))) .nil)
def B__law_in_1 : Ss := (.cons (.ite (.op .le (.cons (.var 1) (.cons (.op .add (.cons (.var 2) (.cons (.op .mul (.cons (.var 3) (.cons (.var 4) .nil))) .nil))) .nil))) (.cons (.ret (.op .eq (.cons (.op .mod (.cons (.op .int (.cons (.op .sub (.cons (.var 1) (.cons (.var 2) .nil))) .nil)) (.cons (.var 3) .nil))) (.cons (.cst (.int 0)) .nil)))) .nil) .nil) (.cons (.asg (.nm 2) (.op .add (.cons (.var 2) (.cons (.op .mul (.cons (.var 3) (.cons (.var 4) .nil))) .nil)))) .nil))
def B__law_in_1t : Ss := (.cons (.ret (.ite (.op .eq (.cons (.op .ix (.cons (.var 0) (.cons (.cst (.int 1)) .nil))) (.cons (.cst (.int 0)) .nil))) (.op .eq (.cons (.var 1) (.cons (.var 2) .nil))) (.op .eq (.cons (.op .mod (.cons (.op .int (.cons (.op .sub (.cons (.var 1) (.cons (.var 2) .nil))) .nil)) (.cons (.op .ix (.cons (.var 0) (.cons (.cst (.int 1)) .nil))) .nil))) (.cons (.cst (.int 0)) .nil))))) .nil)
/-- _law_in: slots row count at step times; number 12 -/
def B__law_in : Ss := (.cons (.asg (.nm 2) (.cst (.int 0))) (.cons (.for_ (.tp [3, 4]) (.seq (.op .ix (.cons (.var 0) (.cons (.cst (.int 0)) .nil)))) B__law_in_1) B__law_in_1t))
def B__law_euclid_1 : Ss := (.cons (.asg (.nm 3) (.op .ix (.cons (.var 1) (.cons (.cst (.int 0)) .nil)))) (.cons (.asg (.nm 4) (.comp (.nm 6) [6] (.seq (.var 1)) (.one (.op .gt (.cons (.op .mod (.cons (.op .int (.cons (.var 6) .nil)) (.cons (.var 3) .nil))) (.cons (.cst (.int 0)) .nil)))) (.op .fdiv (.cons (.var 6) (.cons (.var 3) .nil))))) (.cons (.ite (.op .eq (.cons (.var 4) (.cons (.lst .nil) .nil))) (.cons (.ret (.tup (.cons (.op .tuple (.cons (.var 2) .nil)) (.cons (.frz 3) .nil)))) .nil) .nil) (.cons (.asg (.nm 5) (.op .minl (.cons (.var 4) .nil))) (.cons (.app 2 (.tup (.cons (.frz 3) (.cons (.frz 5) .nil)))) (.cons (.asg (.nm 1) (.op .sortset (.cons (.op .add (.cons (.comp (.nm 6) [6] (.seq (.var 1)) (.one (.op .gt (.cons (.var 6) (.cons (.op .mul (.cons (.var 3) (.cons (.var 5) .nil))) .nil)))) (.op .sub (.cons (.var 6) (.cons (.op .mul (.cons (.var 3) (.cons (.var 5) .nil))) .nil)))) (.cons (.lst (.cons (.frz 3) .nil)) .nil))) .nil))) .nil))))))
def B__law_euclid_1t : Ss := (.cons (.ret (.tup (.cons (.tup .nil) (.cons (.cst (.int 0)) .nil)))) .nil)
/-- _law_euclid: slots counts left runs step turns times one; number 13 -/
def B__law_euclid : Ss := (.cons (.par [1, 2] (.cons (.op .sortset (.cons (.comp (.nm 6) [6] (.seq (.var 0)) (.one (.op .gt (.cons (.var 6) (.cons (.cst (.int 0)) .nil)))) (.frz 6)) .nil)) (.cons (.lst .nil) .nil))) (.cons (.wh (headN 1) (.op .ne (.cons (.var 1) (.cons (.lst .nil) .nil))) B__law_euclid_1) B__law_euclid_1t))
/-- _law_row: slots deal form end bound turn; number 14 -/
def B__law_row : Ss := (.cons (.asg (.nm 1) (.call 10 (.cons (.var 0) (.cons (.cst (.int 8)) .nil)))) (.cons (.ite (.op .eq (.cons (.var 1) (.cons (.cst (.int 0)) .nil))) (.cons (.ret (.tup (.cons (.tup .nil) (.cons (.call 10 (.cons (.var 0) (.cons (.cst (.int 5)) .nil))) .nil)))) .nil) .nil) (.cons (.ite (.op .lt (.cons (.var 1) (.cons (.cst (.int 4)) .nil))) (.cons (.ret (.call 13 (.cons (.comp (.nm 4) [4] (.rg1 (.op .add (.cons (.cst (.int 1)) (.cons (.call 10 (.cons (.var 0) (.cons (.cst (.int 4)) .nil))) .nil)))) .yes (.op .add (.cons (.cst (.int 1)) (.cons (.call 10 (.cons (.var 0) (.cons (.cst (.int 24)) .nil))) .nil)))) .nil))) .nil) .nil) (.cons (.ite (.op .lt (.cons (.var 1) (.cons (.cst (.int 6)) .nil))) (.cons (.asg (.nm 2) (.call 11 (.cons (.var 0) (.cons (.lst (.cons (.cst (.int 1)) (.cons (.cst (.int 1)) (.cons (.cst (.int 2)) (.cons (.cst (.int 3)) (.cons (.cst (.int 6)) .nil)))))) .nil)))) (.cons (.ret (.call 13 (.cons (.op .add (.cons (.comp (.nm 4) [4] (.rg1 (.op .add (.cons (.cst (.int 2)) (.cons (.call 10 (.cons (.var 0) (.cons (.cst (.int 2)) .nil))) .nil)))) .yes (.op .mul (.cons (.var 2) (.cons (.op .add (.cons (.cst (.int 1)) (.cons (.call 10 (.cons (.var 0) (.cons (.cst (.int 12)) .nil))) .nil))) .nil)))) (.cons (.lst (.cons (.op .mul (.cons (.var 2) (.cons (.op .add (.cons (.cst (.int 20)) (.cons (.call 10 (.cons (.var 0) (.cons (.cst (.int 9)) .nil))) .nil))) .nil))) .nil)) .nil))) .nil))) .nil)) .nil) (.cons (.asg (.nm 3) (.call 11 (.cons (.var 0) (.cons (.lst (.cons (.op .pow (.cons (.cst (.int 10)) (.cons (.cst (.int 3)) .nil))) (.cons (.op .pow (.cons (.cst (.int 10)) (.cons (.cst (.int 6)) .nil))) (.cons (.op .pow (.cons (.cst (.int 10)) (.cons (.cst (.int 12)) .nil))) (.cons (.op .pow (.cons (.cst (.int 10)) (.cons (.cst (.int 29)) .nil))) .nil))))) .nil)))) (.cons (.ret (.call 13 (.cons (.comp (.nm 4) [4] (.rg1 (.op .add (.cons (.cst (.int 1)) (.cons (.call 10 (.cons (.var 0) (.cons (.cst (.int 4)) .nil))) .nil)))) .yes (.op .add (.cons (.cst (.int 1)) (.cons (.call 10 (.cons (.var 0) (.cons (.frz 3) .nil))) .nil)))) .nil))) .nil))))))
/-- _law_is_number: slots value; number 15 -/
def B__law_is_number : Ss := (.cons (.ret (.and (.op (.isa .tInt) (.cons (.var 0) .nil)) (.and (.not (.op (.isa .tBool) (.cons (.var 0) .nil))) (.op .ge (.cons (.var 0) (.cons (.cst (.int 0)) .nil)))))) .nil)
def B__law_is_falling_1 : Ss := (.cons (.ite (.or (.not (.op (.isa .tTuple) (.cons (.var 1) .nil))) (.or (.op .ne (.cons (.op .len (.cons (.var 1) .nil)) (.cons (.cst (.int 2)) .nil))) (.op .ne (.cons (.comp (.nm 4) [4] (.seq (.var 1)) (.one (.or (.not (.call 15 (.cons (.frz 4) .nil))) (.op .eq (.cons (.var 4) (.cons (.cst (.int 0)) .nil))))) (.frz 4)) (.cons (.lst .nil) .nil))))) (.cons (.ret (.cst (.bl false))) .nil) .nil) .nil)
def B__law_is_falling_2 : Ss := (.cons (.asg (.nm 3) (.ite (.op .lt (.cons (.op .add (.cons (.var 2) (.cons (.cst (.int 1)) .nil))) (.cons (.op .len (.cons (.op .ix (.cons (.var 0) (.cons (.cst (.int 0)) .nil))) .nil)) .nil))) (.op .ix (.cons (.op .ix (.cons (.op .ix (.cons (.var 0) (.cons (.cst (.int 0)) .nil))) (.cons (.op .add (.cons (.var 2) (.cons (.cst (.int 1)) .nil))) .nil))) (.cons (.cst (.int 0)) .nil))) (.op .ix (.cons (.var 0) (.cons (.cst (.int 1)) .nil))))) (.cons (.ite (.or (.op .le (.cons (.op .ix (.cons (.var 1) (.cons (.cst (.int 0)) .nil))) (.cons (.var 3) .nil))) (.not (.call 12 (.cons (.tup (.cons (.op (.sl true false) (.cons (.op .ix (.cons (.var 0) (.cons (.cst (.int 0)) .nil))) (.cons (.op .add (.cons (.var 2) (.cons (.cst (.int 1)) .nil))) .nil))) (.cons (.op .ix (.cons (.var 0) (.cons (.cst (.int 1)) .nil))) .nil))) (.cons (.op .ix (.cons (.var 1) (.cons (.cst (.int 0)) .nil))) .nil))))) (.cons (.ret (.cst (.bl false))) .nil) .nil) .nil))
def B__law_is_falling_2t : Ss := (.cons (.ret (.cst (.bl true))) .nil)
def B__law_is_falling_1t : Ss := (.cons (.ite (.and (.op .ne (.cons (.op .ix (.cons (.var 0) (.cons (.cst (.int 0)) .nil))) (.cons (.tup .nil) .nil))) (.op .eq (.cons (.op .ix (.cons (.var 0) (.cons (.cst (.int 1)) .nil))) (.cons (.cst (.int 0)) .nil)))) (.cons (.ret (.cst (.bl false))) .nil) .nil) (.cons (.for_ (.tp [2, 1]) (.enum (.op .ix (.cons (.var 0) (.cons (.cst (.int 0)) .nil)))) B__law_is_falling_2) B__law_is_falling_2t))
/-- _law_is_falling: slots value run at behind one; number 16 -/
def B__law_is_falling : Ss := (.cons (.ite (.or (.not (.op (.isa .tTuple) (.cons (.var 0) .nil))) (.or (.op .ne (.cons (.op .len (.cons (.var 0) .nil)) (.cons (.cst (.int 2)) .nil))) (.or (.not (.op (.isa .tTuple) (.cons (.op .ix (.cons (.var 0) (.cons (.cst (.int 0)) .nil))) .nil))) (.not (.call 15 (.cons (.op .ix (.cons (.var 0) (.cons (.cst (.int 1)) .nil))) .nil)))))) (.cons (.ret (.cst (.bl false))) .nil) .nil) (.cons (.for_ (.nm 1) (.seq (.op .ix (.cons (.var 0) (.cons (.cst (.int 0)) .nil)))) B__law_is_falling_1) B__law_is_falling_1t))
/-- _law_near: slots deal row form runs end at step times; number 17 -/
def B__law_near : Ss := (.cons (.par [2, 3, 4] (.cons (.call 10 (.cons (.var 0) (.cons (.cst (.int 12)) .nil))) (.cons (.op .list (.cons (.op .ix (.cons (.var 1) (.cons (.cst (.int 0)) .nil))) .nil)) (.cons (.op .ix (.cons (.var 1) (.cons (.cst (.int 1)) .nil))) .nil)))) (.cons (.ite (.op .eq (.cons (.var 2) (.cons (.cst (.int 0)) .nil))) (.cons (.ret (.call 11 (.cons (.var 0) (.cons (.lst (.cons (.cst .non) (.cons (.frz 3) (.cons (.lst (.cons (.op .ix (.cons (.var 1) (.cons (.cst (.int 0)) .nil))) (.cons (.frz 4) .nil))) (.cons (.tup (.cons (.frz 3) (.cons (.frz 4) .nil))) (.cons (.tup (.cons (.op .ix (.cons (.var 1) (.cons (.cst (.int 0)) .nil))) .nil)) (.cons (.tup (.cons (.op .ix (.cons (.var 1) (.cons (.cst (.int 0)) .nil))) (.cons (.frz 4) (.cons (.cst (.int 0)) .nil)))) (.cons (.cst (.int 0)) (.cons (.tup (.cons (.op .ix (.cons (.var 1) (.cons (.cst (.int 0)) .nil))) (.cons (.cst .non) .nil))) (.cons (.tup (.cons (.op .ix (.cons (.var 1) (.cons (.cst (.int 0)) .nil))) (.cons (.cst (.str (Str.ofString "1"))) .nil))) (.cons (.tup (.cons (.tup (.cons (.cst (.int 0)) .nil)) (.cons (.cst (.int 1)) .nil))) .nil))))))))))) .nil)))) .nil) .nil) (.cons (.ite (.op .eq (.cons (.var 2) (.cons (.cst (.int 1)) .nil))) (.cons (.ret (.tup (.cons (.op .ix (.cons (.var 1) (.cons (.cst (.int 0)) .nil))) (.cons (.call 11 (.cons (.var 0) (.cons (.lst (.cons (.cst (.int 0)) (.cons (.op .neg (.cons (.cst (.int 1)) .nil)) (.cons (.cst (.bl true)) (.cons (.cst (.bl false)) (.cons (.op .add (.cons (.var 4) (.cons (.cst (.int 1)) .nil))) (.cons (.op .mul (.cons (.var 4) (.cons (.cst (.int 2)) .nil))) (.cons (.op .sub (.cons (.var 4) (.cons (.cst (.int 1)) .nil))) (.cons (.op .mul (.cons (.var 4) (.cons (.cst (.int 3)) .nil))) .nil))))))))) .nil))) .nil)))) .nil) .nil) (.cons (.ite (.or (.op .eq (.cons (.var 3) (.cons (.lst .nil) .nil))) (.op .eq (.cons (.var 2) (.cons (.cst (.int 2)) .nil)))) (.cons (.ins 3 (.call 10 (.cons (.var 0) (.cons (.op .add (.cons (.op .len (.cons (.var 3) .nil)) (.cons (.cst (.int 1)) .nil))) .nil))) (.tup (.cons (.op .add (.cons (.cst (.int 1)) (.cons (.call 10 (.cons (.var 0) (.cons (.cst (.int 9)) .nil))) .nil))) (.cons (.op .add (.cons (.cst (.int 1)) (.cons (.call 10 (.cons (.var 0) (.cons (.cst (.int 3)) .nil))) .nil))) .nil)))) (.cons (.ret (.tup (.cons (.op .tuple (.cons (.var 3) .nil)) (.cons (.frz 4) .nil)))) .nil)) .nil) (.cons (.asg (.nm 5) (.call 10 (.cons (.var 0) (.cons (.op .len (.cons (.var 3) .nil)) .nil)))) (.cons (.asg (.tp [6, 7]) (.op .ix (.cons (.var 3) (.cons (.var 5) .nil)))) (.cons (.ite (.op .lt (.cons (.var 2) (.cons (.cst (.int 5)) .nil))) (.cons (.setix 3 (.var 5) (.tup (.cons (.op .add (.cons (.var 6) (.cons (.call 11 (.cons (.var 0) (.cons (.lst (.cons (.cst (.int 1)) (.cons (.op .neg (.cons (.cst (.int 1)) .nil)) (.cons (.cst (.int 2)) (.cons (.frz 4) (.cons (.op .neg (.cons (.var 4) .nil)) .nil)))))) .nil))) .nil))) (.cons (.frz 7) .nil)))) .nil) (.cons (.ite (.op .lt (.cons (.var 2) (.cons (.cst (.int 7)) .nil))) (.cons (.setix 3 (.var 5) (.tup (.cons (.frz 6) (.cons (.call 11 (.cons (.var 0) (.cons (.lst (.cons (.op .add (.cons (.var 7) (.cons (.cst (.int 1)) .nil))) (.cons (.op .sub (.cons (.var 7) (.cons (.cst (.int 1)) .nil))) (.cons (.cst (.int 0)) (.cons (.op .mul (.cons (.var 7) (.cons (.cst (.int 2)) .nil))) (.cons (.cst (.int 1)) .nil)))))) .nil))) .nil)))) .nil) (.cons (.ite (.op .eq (.cons (.var 2) (.cons (.cst (.int 7)) .nil))) (.cons (.setix 3 (.var 5) (.call 11 (.cons (.var 0) (.cons (.lst (.cons (.lst (.cons (.frz 6) (.cons (.frz 7) .nil))) (.cons (.tup (.cons (.frz 6) .nil)) (.cons (.tup (.cons (.frz 6) (.cons (.frz 7) (.cons (.cst (.int 1)) .nil)))) (.cons (.tup (.cons (.cst (.bl true)) (.cons (.frz 7) .nil))) (.cons (.tup (.cons (.frz 6) (.cons (.cst (.bl true)) .nil))) (.cons (.tup (.cons (.frz 6) (.cons (.cst .non) .nil))) (.cons (.tup (.cons (.cst (.int 0)) (.cons (.frz 7) .nil))) (.cons (.tup (.cons (.op .neg (.cons (.var 6) .nil)) (.cons (.frz 7) .nil))) (.cons (.frz 6) .nil)))))))))) .nil)))) .nil) (.cons (.ite (.op .eq (.cons (.var 2) (.cons (.cst (.int 8)) .nil))) (.cons (.expr (.popAt 3 (.var 5))) .nil) (.cons (.ite (.op .eq (.cons (.var 2) (.cons (.cst (.int 9)) .nil))) (.cons (.ins 3 (.var 5) (.tup (.cons (.frz 6) (.cons (.cst (.int 1)) .nil)))) .nil) (.cons (.ite (.op .eq (.cons (.var 2) (.cons (.cst (.int 10)) .nil))) (.cons (.asg (.nm 3) (.op .rev (.cons (.var 3) .nil))) .nil) .nil) .nil)) .nil)) .nil)) .nil)) .nil)) (.cons (.ret (.tup (.cons (.op .tuple (.cons (.var 3) .nil)) (.cons (.frz 4) .nil)))) .nil))))))))
/-- _law_count: slots deal row total form at begin step times; number 18 -/
def B__law_count : Ss := (.cons (.par [2, 3] (.cons (.op .sum (.cons (.comp (.tp [6, 7]) [6, 7] (.seq (.op .ix (.cons (.var 1) (.cons (.cst (.int 0)) .nil)))) .yes (.op .mul (.cons (.var 6) (.cons (.var 7) .nil)))) .nil)) (.cons (.call 10 (.cons (.var 0) (.cons (.cst (.int 5)) .nil))) .nil))) (.cons (.ite (.op .eq (.cons (.var 3) (.cons (.cst (.int 0)) .nil))) (.cons (.ret (.call 10 (.cons (.var 0) (.cons (.cst (.int 40)) .nil)))) .nil) .nil) (.cons (.ite (.op .eq (.cons (.var 3) (.cons (.cst (.int 1)) .nil))) (.cons (.ret (.op .max2 (.cons (.cst (.int 0)) (.cons (.op .sub (.cons (.op .add (.cons (.op .add (.cons (.var 2) (.cons (.op .mul (.cons (.op .ix (.cons (.var 1) (.cons (.cst (.int 1)) .nil))) (.cons (.call 10 (.cons (.var 0) (.cons (.cst (.int 4)) .nil))) .nil))) .nil))) (.cons (.call 10 (.cons (.var 0) (.cons (.cst (.int 3)) .nil))) .nil))) (.cons (.cst (.int 1)) .nil))) .nil)))) .nil) .nil) (.cons (.ite (.or (.op .eq (.cons (.var 3) (.cons (.cst (.int 2)) .nil))) (.op .eq (.cons (.op .ix (.cons (.var 1) (.cons (.cst (.int 0)) .nil))) (.cons (.tup .nil) .nil)))) (.cons (.ret (.call 10 (.cons (.var 0) (.cons (.op .pow (.cons (.cst (.int 10)) (.cons (.cst (.int 29)) .nil))) .nil)))) .nil) .nil) (.cons (.asg (.nm 4) (.call 10 (.cons (.var 0) (.cons (.op .len (.cons (.op .ix (.cons (.var 1) (.cons (.cst (.int 0)) .nil))) .nil)) .nil)))) (.cons (.asg (.nm 5) (.op .sum (.cons (.comp (.tp [6, 7]) [6, 7] (.seq (.op (.sl false true) (.cons (.op .ix (.cons (.var 1) (.cons (.cst (.int 0)) .nil))) (.cons (.var 4) .nil)))) .yes (.op .mul (.cons (.var 6) (.cons (.var 7) .nil)))) .nil))) (.cons (.ret (.op .max2 (.cons (.cst (.int 0)) (.cons (.op .add (.cons (.op .add (.cons (.var 5) (.cons (.op .mul (.cons (.op .ix (.cons (.op .ix (.cons (.op .ix (.cons (.var 1) (.cons (.cst (.int 0)) .nil))) (.cons (.var 4) .nil))) (.cons (.cst (.int 0)) .nil))) (.cons (.call 10 (.cons (.var 0) (.cons (.op .add (.cons (.op .ix (.cons (.op .ix (.cons (.op .ix (.cons (.var 1) (.cons (.cst (.int 0)) .nil))) (.cons (.var 4) .nil))) (.cons (.cst (.int 1)) .nil))) (.cons (.cst (.int 1)) .nil))) .nil))) .nil))) .nil))) (.cons (.call 11 (.cons (.var 0) (.cons (.lst (.cons (.cst (.int 0)) (.cons (.cst (.int 0)) (.cons (.cst (.int 1)) (.cons (.op .neg (.cons (.cst (.int 1)) .nil)) .nil))))) .nil))) .nil))) .nil)))) .nil)))))))
/-- rounded_up: slots number step; number 21 -/
def B_rounded_up : Ss := (.cons (.ret (.op .mul (.cons (.op .fdiv (.cons (.op .sub (.cons (.op .add (.cons (.var 0) (.cons (.var 1) .nil))) (.cons (.cst (.int 1)) .nil))) (.cons (.var 1) .nil))) (.cons (.var 1) .nil)))) .nil)
def B_member_at_1 : Ss := (.cons (.ite (.op .le (.cons (.var 5) (.cons (.var 7) .nil))) (.cons (.ret (.op .add (.cons (.var 4) (.cons (.op .mul (.cons (.var 6) (.cons (.var 5) .nil))) .nil)))) .nil) .nil) (.cons (.aug .add 4 (.op .mul (.cons (.var 6) (.cons (.var 7) .nil)))) (.cons (.aug .sub 5 (.var 7)) .nil)))
def B_member_at_1t : Ss := (.cons (.ite (.and (.op .eq (.cons (.var 3) (.cons (.cst (.int 0)) .nil))) (.op .gt (.cons (.var 5) (.cons (.cst (.int 0)) .nil)))) (.cons (.raise 6 (.cst (.int 0))) .nil) .nil) (.cons (.ret (.op .add (.cons (.var 4) (.cons (.op .mul (.cons (.var 3) (.cons (.var 5) .nil))) .nil)))) .nil))
/-- member_at: slots falling index runs end base left step times; number 22 -/
def B_member_at : Ss := (.cons (.asg (.tp [2, 3]) (.call 7 (Es.app (.cons (.frz 0) .nil) [.int 0]))) (.cons (.asg (.nm 4) (.cst (.int 0))) (.cons (.asg (.nm 5) (.frz 1)) (.cons (.for_ (.tp [6, 7]) (.seq (.var 2)) B_member_at_1) B_member_at_1t))))
def B_next_member_1 : Ss := (.cons (.ite (.op .le (.cons (.var 1) (.cons (.op .add (.cons (.var 4) (.cons (.op .mul (.cons (.var 5) (.cons (.var 6) .nil))) .nil))) .nil))) (.cons (.ret (.op .add (.cons (.var 4) (.cons (.call 21 (.cons (.op .sub (.cons (.var 1) (.cons (.var 4) .nil))) (.cons (.frz 5) .nil))) .nil)))) .nil) .nil) (.cons (.aug .add 4 (.op .mul (.cons (.var 5) (.cons (.var 6) .nil)))) .nil))
def B_next_member_1t : Ss := (.cons (.ite (.op .eq (.cons (.var 3) (.cons (.cst (.int 0)) .nil))) (.cons (.ret (.ite (.op .eq (.cons (.var 1) (.cons (.cst (.int 0)) .nil))) (.cst (.int 0)) (.cst .non))) .nil) .nil) (.cons (.ret (.op .add (.cons (.var 4) (.cons (.call 21 (.cons (.op .sub (.cons (.var 1) (.cons (.var 4) .nil))) (.cons (.frz 3) .nil))) .nil)))) .nil))
/-- next_member: slots falling count runs end base step times; number 23 -/
def B_next_member : Ss := (.cons (.asg (.tp [2, 3]) (.call 7 (Es.app (.cons (.frz 0) .nil) [.int 0]))) (.cons (.asg (.nm 4) (.cst (.int 0))) (.cons (.for_ (.tp [5, 6]) (.seq (.var 2)) B_next_member_1) B_next_member_1t)))
def B_members_below_1 : Ss := (.cons (.ite (.op .le (.cons (.var 1) (.cons (.op .add (.cons (.var 4) (.cons (.op .mul (.cons (.var 6) (.cons (.var 7) .nil))) .nil))) .nil))) (.cons (.ret (.op .add (.cons (.var 5) (.cons (.op .fdiv (.cons (.op .sub (.cons (.op .add (.cons (.op .sub (.cons (.var 1) (.cons (.var 4) .nil))) (.cons (.var 6) .nil))) (.cons (.cst (.int 1)) .nil))) (.cons (.var 6) .nil))) .nil)))) .nil) .nil) (.cons (.aug .add 4 (.op .mul (.cons (.var 6) (.cons (.var 7) .nil)))) (.cons (.aug .add 5 (.var 7)) .nil)))
def B_members_below_1t : Ss := (.cons (.ite (.op .eq (.cons (.var 3) (.cons (.cst (.int 0)) .nil))) (.cons (.ret (.op .min2 (.cons (.var 1) (.cons (.cst (.int 1)) .nil)))) .nil) .nil) (.cons (.ret (.op .add (.cons (.var 5) (.cons (.op .fdiv (.cons (.op .sub (.cons (.op .add (.cons (.op .sub (.cons (.var 1) (.cons (.var 4) .nil))) (.cons (.var 3) .nil))) (.cons (.cst (.int 1)) .nil))) (.cons (.var 3) .nil))) .nil)))) .nil))
/-- members_below: slots falling bound runs end base many step times; number 24 -/
def B_members_below : Ss := (.cons (.asg (.tp [2, 3]) (.frz 0)) (.cons (.asg (.nm 4) (.cst (.int 0))) (.cons (.asg (.nm 5) (.cst (.int 0))) (.cons (.for_ (.tp [6, 7]) (.seq (.var 2)) B_members_below_1) B_members_below_1t))))
/-- members_between: slots falling low high told; number 25 -/
def B_members_between : Ss := (.cons (.asg (.nm 3) (.call 7 (Es.app (.cons (.frz 0) .nil) [.int 0]))) (.cons (.ite (.op .le (.cons (.var 2) (.cons (.var 1) .nil))) (.cons (.ret (.cst (.int 0))) .nil) .nil) (.cons (.ret (.op .sub (.cons (.call 24 (.cons (.frz 3) (.cons (.frz 2) .nil))) (.cons (.call 24 (.cons (.frz 3) (.cons (.frz 1) .nil))) .nil)))) .nil)))
def B__law_at_1 : Ss := (.cons (.asg (.nm 6) (.op .min2 (.cons (.var 3) (.cons (.var 5) .nil)))) (.cons (.par [2, 3] (.cons (.op .add (.cons (.var 2) (.cons (.op .mul (.cons (.var 4) (.cons (.var 6) .nil))) .nil))) (.cons (.op .sub (.cons (.var 3) (.cons (.var 6) .nil))) .nil))) .nil))
def B__law_at_1t : Ss := (.cons (.ret (.ite (.or (.op .gt (.cons (.op .ix (.cons (.var 0) (.cons (.cst (.int 1)) .nil))) (.cons (.cst (.int 0)) .nil))) (.op .eq (.cons (.var 3) (.cons (.cst (.int 0)) .nil)))) (.op .add (.cons (.var 2) (.cons (.op .mul (.cons (.op .ix (.cons (.var 0) (.cons (.cst (.int 1)) .nil))) (.cons (.var 3) .nil))) .nil))) (.cst .non))) .nil)
/-- _law_at: slots row index found left step times gone; number 26 -/
def B__law_at : Ss := (.cons (.par [2, 3] (.cons (.cst (.int 0)) (.cons (.frz 1) .nil))) (.cons (.for_ (.tp [4, 5]) (.seq (.op .ix (.cons (.var 0) (.cons (.cst (.int 0)) .nil)))) B__law_at_1) B__law_at_1t))
def B__law_below_1 : Ss := (.cons (.ite (.op .gt (.cons (.var 1) (.cons (.var 3) .nil))) (.cons (.asg (.nm 2) (.op .add (.cons (.var 2) (.cons (.op .min2 (.cons (.var 5) (.cons (.op .sub (.cons (.cst (.int 0)) (.cons (.op .fdiv (.cons (.op .sub (.cons (.var 3) (.cons (.var 1) .nil))) (.cons (.var 4) .nil))) .nil))) .nil))) .nil)))) .nil) .nil) (.cons (.asg (.nm 3) (.op .add (.cons (.var 3) (.cons (.op .mul (.cons (.var 4) (.cons (.var 5) .nil))) .nil)))) .nil))
def B__law_below_1t : Ss := (.cons (.ite (.op .le (.cons (.var 1) (.cons (.var 3) .nil))) (.cons (.ret (.var 2)) .nil) .nil) (.cons (.ret (.ite (.op .eq (.cons (.op .ix (.cons (.var 0) (.cons (.cst (.int 1)) .nil))) (.cons (.cst (.int 0)) .nil))) (.op .add (.cons (.var 2) (.cons (.cst (.int 1)) .nil))) (.op .sub (.cons (.op .add (.cons (.var 2) (.cons (.cst (.int 0)) .nil))) (.cons (.op .fdiv (.cons (.op .sub (.cons (.var 3) (.cons (.var 1) .nil))) (.cons (.op .ix (.cons (.var 0) (.cons (.cst (.int 1)) .nil))) .nil))) .nil))))) .nil))
/-- _law_below: slots row count found at step times; number 27 -/
def B__law_below : Ss := (.cons (.par [2, 3] (.cons (.cst (.int 0)) (.cons (.cst (.int 0)) .nil))) (.cons (.for_ (.tp [4, 5]) (.seq (.op .ix (.cons (.var 0) (.cons (.cst (.int 0)) .nil)))) B__law_below_1) B__law_below_1t))
/-- _law_asked: slots form value n e how; number 28 -/
def B__law_asked : Ss := (.cons (.try_ (.cons (.ite (.op .eq (.cons (.var 0) (.cons (.cst (.int 0)) .nil))) (.cons (.ret (.tup (.cons (.cst (.str (Str.ofString "told"))) (.cons (.callK 22 [0, 1] (.cons (.frz 1) (.cons (.frz 2) .nil))) .nil)))) .nil) .nil) (.cons (.ite (.op .eq (.cons (.var 0) (.cons (.cst (.int 1)) .nil))) (.cons (.ret (.tup (.cons (.cst (.str (Str.ofString "told"))) (.cons (.callK 23 [0, 1] (.cons (.frz 1) (.cons (.frz 2) .nil))) .nil)))) .nil) .nil) (.cons (.ret (.tup (.cons (.cst (.str (Str.ofString "told"))) (.cons (.callK 25 [0, 1, 2] (.cons (.frz 1) (.cons (.cst (.int 0)) (.cons (.frz 2) .nil)))) .nil)))) .nil))) (.cons [4] [6] (some 3) (.cons (.ret (.tup (.cons (.cst (.str (Str.ofString "question"))) (.cons (.exAt 3) .nil)))) .nil) (.cons [6] [4] (some 4) (.cons (.ret (.tup (.cons (.cst (.str (Str.ofString "refused"))) (.cons (.exAt 4) .nil)))) .nil) .nil))) .nil)
/-- _law_number: slots deal row total form step times; number 29 -/
def B__law_number : Ss := (.cons (.par [2, 3] (.cons (.op .sum (.cons (.comp (.tp [4, 5]) [4, 5] (.seq (.op .ix (.cons (.var 1) (.cons (.cst (.int 0)) .nil)))) .yes (.op .mul (.cons (.var 4) (.cons (.var 5) .nil)))) .nil)) (.cons (.call 10 (.cons (.var 0) (.cons (.cst (.int 4)) .nil))) .nil))) (.cons (.ite (.op .eq (.cons (.var 3) (.cons (.cst (.int 0)) .nil))) (.cons (.ret (.call 10 (.cons (.var 0) (.cons (.cst (.int 40)) .nil)))) .nil) .nil) (.cons (.ite (.op .eq (.cons (.var 3) (.cons (.cst (.int 1)) .nil))) (.cons (.ret (.op .max2 (.cons (.cst (.int 0)) (.cons (.op .sub (.cons (.op .add (.cons (.var 2) (.cons (.call 10 (.cons (.var 0) (.cons (.cst (.int 9)) .nil))) .nil))) (.cons (.cst (.int 4)) .nil))) .nil)))) .nil) .nil) (.cons (.ite (.and (.op .eq (.cons (.var 3) (.cons (.cst (.int 2)) .nil))) (.op .gt (.cons (.var 2) (.cons (.cst (.int 0)) .nil)))) (.cons (.ret (.call 10 (.cons (.var 0) (.cons (.frz 2) .nil)))) .nil) .nil) (.cons (.ret (.call 10 (.cons (.var 0) (.cons (.op .pow (.cons (.cst (.int 10)) (.cons (.cst (.int 29)) .nil))) .nil)))) .nil)))))
end Rx

/-! RxF1 -/
/-! RxF1: falling rows: what the small defs are worth. -/
set_option linter.all false
set_option Elab.async false
set_option maxRecDepth 100000
set_option maxHeartbeats 4000000
namespace Rx
local macro_rules
  | `(tactic| simp!) => `(tactic| simp only [slot_z, slot_1, slot_2, slot_3, slot_4, slot_5, slot_6, slot_7, slot_8, slot_9, slot_10, slot_11, slot_12, q_var, q_frz, q_cst, q_op, q_call, q_callK, q_tup, q_lst, q_ite, q_and, q_or, q_not, q_chain, q_pop, q_exAt, es_nil, es_cons, ks_nil, ks_cons, t_and, t_or, t_not, t_op, t_var, t_call, t_callK, t_chain, t_cst, c_yes, c_one, b_ok, b_exc, o_ok, o_exc, of_some, g_val, g_new, g_ref, gs_nil, gs_cons, k_val, k_new, tk_val, tk_new, tk_deal, gv_val, gv_new, gv_ref, m_val, m_new, p_nm, p_tp, p_tpp, putD_nil, putD_cons, putM_nil, putM_cons, put_def, free_def, ts_nil, ts_cons, t1_ok, t1_exc, tr_bl, tr_non, ss_nil, ss_cons, s_asg, s_par, s_aug, s_app, s_ext, s_pop, s_expr, s_doc, s_ret, s_retN, s_pass, s_brk, s_cnt, s_ite, s_raise, s_setix, s_ins, i_seq, i_rg1, i_rg2, i_enum, i_zip, i_rev, sq_lst, sq_tup, wl_vs, v_add, v_sub, v_neg, v_lt, v_le, v_gt, v_ge, v_isN, v_notN, v_isB, v_notB, v_rev, v_lenL, v_lenT, v_abs, v_int, v_listL, v_listT, v_tupleL, v_tupleT, v_max2, v_min2, v_isa, Option.bind_some, List.set_cons_zero, List.set_cons_succ, List.length_cons, List.length_nil, if_true, if_false, reduceIte, Bool.false_eq_true, decide_true, decide_false, isOwn])
  | `(tactic| simp! [$ls,*]) => `(tactic| simp only [slot_z, slot_1, slot_2, slot_3, slot_4, slot_5, slot_6, slot_7, slot_8, slot_9, slot_10, slot_11, slot_12, q_var, q_frz, q_cst, q_op, q_call, q_callK, q_tup, q_lst, q_ite, q_and, q_or, q_not, q_chain, q_pop, q_exAt, es_nil, es_cons, ks_nil, ks_cons, t_and, t_or, t_not, t_op, t_var, t_call, t_callK, t_chain, t_cst, c_yes, c_one, b_ok, b_exc, o_ok, o_exc, of_some, g_val, g_new, g_ref, gs_nil, gs_cons, k_val, k_new, tk_val, tk_new, tk_deal, gv_val, gv_new, gv_ref, m_val, m_new, p_nm, p_tp, p_tpp, putD_nil, putD_cons, putM_nil, putM_cons, put_def, free_def, ts_nil, ts_cons, t1_ok, t1_exc, tr_bl, tr_non, ss_nil, ss_cons, s_asg, s_par, s_aug, s_app, s_ext, s_pop, s_expr, s_doc, s_ret, s_retN, s_pass, s_brk, s_cnt, s_ite, s_raise, s_setix, s_ins, i_seq, i_rg1, i_rg2, i_enum, i_zip, i_rev, sq_lst, sq_tup, wl_vs, v_add, v_sub, v_neg, v_lt, v_le, v_gt, v_ge, v_isN, v_notN, v_isB, v_notB, v_rev, v_lenL, v_lenT, v_abs, v_int, v_listL, v_listT, v_tupleL, v_tupleT, v_max2, v_min2, v_isa, Option.bind_some, List.set_cons_zero, List.set_cons_succ, List.length_cons, List.length_nil, if_true, if_false, reduceIte, Bool.false_eq_true, decide_true, decide_false, isOwn, $ls,*])
local macro_rules
  | `(tactic| simp_arith!) => `(tactic| simp (config := { dsimp := false, implicitDefEqProofs := false }) only [↓wp_bind, ↓wp_o, ↓wo_cons, ↓wp_test1, ↓wp_ok, ↓w_op, ↓w_call, ↓w_callK, ↓w_tup, ↓w_lst, ↓w_ite, ↓w_es_nil, ↓w_es, ↓w_ks_nil, ↓w_ks, keptQ_val, keptQ_new, ↓w_and, ↓w_or, ↓w_not, ↓w_top, ↓w_tvar, ↓w_tcall, ↓w_tcallK, ↓w_teqR, ↓w_asg, ↓w_ret, ↓w_site, ↓w_expr, ↓w_par, ↓w_eqR, slot_z, slot_1, slot_2, slot_3, slot_4, slot_5, slot_6, slot_7, slot_8, slot_9, slot_10, slot_11, slot_12, q_var, q_frz, q_cst, q_op, q_call, q_callK, q_tup, q_lst, q_ite, q_and, q_or, q_not, q_chain, q_pop, q_exAt, es_nil, es_cons, ks_nil, ks_cons, t_and, t_or, t_not, t_op, t_var, t_call, t_callK, t_chain, t_cst, t_eqR, q_eqR, c_yes, c_one, b_ok, b_exc, o_ok, o_exc, of_some, g_val, g_new, g_ref, gs_nil, gs_cons, k_val, k_new, tk_val, tk_new, tk_deal, gv_val, gv_new, gv_ref, m_val, m_new, p_nm, p_tp, p_tpp, putD_nil, putD_cons, putM_nil, putM_cons, put_def, free_def, ts_nil, ts_cons, t1_ok, t1_exc, tr_bl, tr_non, ss_nil, s_asg, s_par, s_aug, s_app, s_ext, s_pop, s_expr, s_doc, s_ret, s_retN, s_pass, s_brk, s_cnt, s_ite, s_raise, s_setix, s_ins, i_seq, i_rg1, i_rg2, i_enum, i_zip, i_rev, sq_lst, sq_tup, wl_vs, v_add, v_sub, v_neg, v_lt, v_le, v_gt, v_ge, v_isN, v_notN, v_isB, v_notB, v_rev, v_lenL, v_lenT, v_abs, v_int, v_listL, v_listT, v_tupleL, v_tupleT, v_max2, v_min2, v_isa, Option.bind_some, List.set_cons_zero, List.set_cons_succ, List.length_cons, List.length_nil, if_true, if_false, reduceIte, Bool.false_eq_true, Bool.true_eq_false, decide_true, decide_false, isOwn, wp_ok, wp_exc, wp_bind, wp_o, wp_ite, wo_ite, wo_nx, wo_rt, wo_bk, wo_ct, wo_exc, wo_cons, wp_test1, tst_mk, v_eqI, v_neI, decide_eq_true_eq, Bool.not_eq_true', decide_eq_false_iff_not, Nat.reduceAdd, Nat.reduceLT, Nat.reduceLeDiff, Nat.zero_add, and_true, true_and])
  | `(tactic| simp_arith! [$ls,*]) => `(tactic| simp (config := { dsimp := false, implicitDefEqProofs := false }) only [↓wp_bind, ↓wp_o, ↓wo_cons, ↓wp_test1, ↓wp_ok, ↓w_op, ↓w_call, ↓w_callK, ↓w_tup, ↓w_lst, ↓w_ite, ↓w_es_nil, ↓w_es, ↓w_ks_nil, ↓w_ks, keptQ_val, keptQ_new, ↓w_and, ↓w_or, ↓w_not, ↓w_top, ↓w_tvar, ↓w_tcall, ↓w_tcallK, ↓w_teqR, ↓w_asg, ↓w_ret, ↓w_site, ↓w_expr, ↓w_par, ↓w_eqR, slot_z, slot_1, slot_2, slot_3, slot_4, slot_5, slot_6, slot_7, slot_8, slot_9, slot_10, slot_11, slot_12, q_var, q_frz, q_cst, q_op, q_call, q_callK, q_tup, q_lst, q_ite, q_and, q_or, q_not, q_chain, q_pop, q_exAt, es_nil, es_cons, ks_nil, ks_cons, t_and, t_or, t_not, t_op, t_var, t_call, t_callK, t_chain, t_cst, t_eqR, q_eqR, c_yes, c_one, b_ok, b_exc, o_ok, o_exc, of_some, g_val, g_new, g_ref, gs_nil, gs_cons, k_val, k_new, tk_val, tk_new, tk_deal, gv_val, gv_new, gv_ref, m_val, m_new, p_nm, p_tp, p_tpp, putD_nil, putD_cons, putM_nil, putM_cons, put_def, free_def, ts_nil, ts_cons, t1_ok, t1_exc, tr_bl, tr_non, ss_nil, s_asg, s_par, s_aug, s_app, s_ext, s_pop, s_expr, s_doc, s_ret, s_retN, s_pass, s_brk, s_cnt, s_ite, s_raise, s_setix, s_ins, i_seq, i_rg1, i_rg2, i_enum, i_zip, i_rev, sq_lst, sq_tup, wl_vs, v_add, v_sub, v_neg, v_lt, v_le, v_gt, v_ge, v_isN, v_notN, v_isB, v_notB, v_rev, v_lenL, v_lenT, v_abs, v_int, v_listL, v_listT, v_tupleL, v_tupleT, v_max2, v_min2, v_isa, Option.bind_some, List.set_cons_zero, List.set_cons_succ, List.length_cons, List.length_nil, if_true, if_false, reduceIte, Bool.false_eq_true, Bool.true_eq_false, decide_true, decide_false, isOwn, wp_ok, wp_exc, wp_bind, wp_o, wp_ite, wo_ite, wo_nx, wo_rt, wo_bk, wo_ct, wo_exc, wo_cons, wp_test1, tst_mk, v_eqI, v_neI, decide_eq_true_eq, Bool.not_eq_true', decide_eq_false_iff_not, Nat.reduceAdd, Nat.reduceLT, Nat.reduceLeDiff, Nat.zero_add, and_true, true_and, $ls,*])
/-- a def is worth d at these values -/
def Is (r : Fs) (f : Nat) (ms : List D) (v : D) : Prop := r f (ms.map .val) = .ok (.val v) (ms.map .val)
theorem fn_is {r : Fs} {np n : Nat} {b : Ss} {ds : List D} {v : D} (h2 : ds.length = np) (h : (denSs r b (ds.map (fun d => some (.val d)) ++ List.replicate (n - np) none)).wp ⟨fun _ => False, fun m e => m = .val v ∧ ds.length ≤ e.length, fun _ => False, fun _ => False, fun _ _ _ => False⟩) :
    denF r np n b (ds.map .val) = .ok (.val v) (ds.map .val) := by
  have lb : ∀ (ds : List D) (e : Env), ds.length ≤ e.length → lentBack (ds.map .val) e = some (ds.map .val) := by
    intro ds
    induction ds with
    | nil => intro e _; rfl
    | cons d ds ih =>
      intro e he
      cases e with
      | nil => simp at he
      | cons o e => simp only [List.map_cons, lentBack, ih e (by simpa using he), Option.map_some]
  have hl : (ds.map M.val).length = np := by rw [List.length_map]; exact h2
  obtain ⟨m, ms, e, hm⟩ := rf_eq (x := denF r np n b (ds.map .val)) (K := fun m ms => m = .val v ∧ ms = ds.map .val) (fn_wp (by simp [lentOk]) hl (by
    rw [List.map_map, hl]
    exact wo_mono h (fun _ h => h.elim) (fun m e h => ⟨_, lb ds e h.2, h.1, rfl⟩) (fun _ h => h) (fun _ h => h) fun _ _ _ h => h))
  rw [e, hm.1, hm.2]
section
variable {r : Fs}
def isNum : D → Bool
  | .int i => decide (0 ≤ i)
  | _ => false
theorem f_is_number (d : D) : denF r 1 1 B_is_number [.val d] = .ok (.val (.bl (isNum d))) [.val d] := by
  refine fn_is (ds := [d]) rfl ?_
  unfold B_is_number
  cases d <;> (simp only [List.map_cons, List.map_nil, List.cons_append, List.nil_append, Nat.sub_self, List.replicate_zero]; simp_arith! [isa, isNum]) <;> first | (refine ⟨rfl, by simp⟩) | simp
def isTup (n : Int) : D → Bool
  | .tup xs => decide ((xs.length : Int) = n)
  | _ => false
theorem f_is_tuple_of (d : D) (n : Int) : denF r 2 2 B_is_tuple_of [.val d, .val (.int n)] = .ok (.val (.bl (isTup n d))) [.val d, .val (.int n)] := by
  refine fn_is (ds := [d, .int n]) rfl ?_
  unfold B_is_tuple_of
  cases d <;> (simp only [List.map_cons, List.map_nil, List.cons_append, List.nil_append, Nat.sub_self, List.replicate_zero]; simp_arith! [isa, isTup]) <;> first | (refine ⟨rfl, by simp⟩) | simp
/-! ### comprehensions of plain functions -/
theorem q_fm {t : T} {own : List Nat} {it : I} {c : C} {e : E} {env env1 : Env} {ds : List D} (p : D → Bool) (g : D → D) (put1 : D → Env) (hi : denI r it env = .ok (.vs ds, env1)) (hcl : clear env1 own = true) (hl : ds.length ≤ maxLen)
    (hp : ∀ d ∈ ds, t.put (some (.val d)) (wipe env1 own) = some (put1 d)) (hc : ∀ d ∈ ds, denC r c (put1 d) = .ok (.mv (.val (.bl (p d))), put1 d)) (he : ∀ d ∈ ds, p d = true → ∃ q, denG r e false (put1 d) = .ok (q, put1 d) ∧ q.keep = some (g d)) (hx : ∀ d ∈ ds, wipe (put1 d) own = wipe env1 own) :
    denG r (.comp t own it c e) false env = .ok (.mv (.own false ((ds.filter p).map g)), back env1 (wipe env1 own) own) := by
  rw [q_comp, hi, b_ok]
  dsimp only
  rw [if_pos hcl]
  have h := compF_fm (w := .vs ds) (fun k => rfl) hp hc he hx (ds.length + 1) 0 [] (Nat.zero_le _) (by omega) (by simpa using hl)
  show (match compF t own (.vs ds) (denC r c) (denG r e false) (ds.length + 1) 0 [] (wipe env1 own) with
          | .ok (ds, env2) => R.ok (Q.mv (.own false ds), back env1 env2 own)
          | _ => .stuck) = _
  rw [h, List.drop_zero, List.nil_append]
/-- without a test -/
theorem q_map {t : T} {own : List Nat} {it : I} {e : E} {env env1 : Env} {ds : List D} (g : D → D) (put1 : D → Env) (hi : denI r it env = .ok (.vs ds, env1)) (hcl : clear env1 own = true) (hl : ds.length ≤ maxLen)
    (hp : ∀ d ∈ ds, t.put (some (.val d)) (wipe env1 own) = some (put1 d)) (he : ∀ d ∈ ds, ∃ q, denG r e false (put1 d) = .ok (q, put1 d) ∧ q.keep = some (g d)) (hx : ∀ d ∈ ds, wipe (put1 d) own = wipe env1 own) :
    denG r (.comp t own it .yes e) false env = .ok (.mv (.own false (ds.map g)), back env1 (wipe env1 own) own) := by
  rw [q_fm (fun _ => true) g put1 hi hcl hl hp (fun d hd => c_yes) (fun d hd _ => he d hd) hx, List.filter_eq_self.mpr (fun _ _ => rfl)]
theorem bools_map {α : Type} (f : α → Bool) : ∀ l : List α, bools? (l.map fun a => D.bl (f a)) = some (l.map f)
  | [] => rfl
  | a :: l => by simp only [List.map_cons, bools?, bools_map f l, Option.map_some]
theorem ints_map {α : Type} (f : α → Int) : ∀ l : List α, ints? (l.map fun a => D.int (f a)) = some (l.map f)
  | [] => rfl
  | a :: l => by simp only [List.map_cons, ints?, ints_map f l, Option.map_some]
theorem all_id {α : Type} (f : α → Bool) (l : List α) : (l.map f).all id = l.all f := by
  induction l with
  | nil => rfl
  | cons a l ih => simp [List.all_cons, ih]
def posNum : D → Bool
  | .int i => decide (0 < i)
  | _ => false
def isRun : D → Bool
  | .tup xs => decide (xs.length = 2) && xs.all posNum
  | _ => false
theorem f_is_run (h0 : ∀ d, r 0 [.val d] = .ok (.val (.bl (isNum d))) [.val d]) (h1 : ∀ d n, r 1 [.val d, .val (.int n)] = .ok (.val (.bl (isTup n d))) [.val d, .val (.int n)]) (d : D) : denF r 1 2 B_is_run [.val d] = .ok (.val (.bl (isRun d))) [.val d] := by
  refine fn_is (ds := [d]) rfl ?_
  unfold B_is_run
  simp only [List.map_cons, List.map_nil, List.cons_append, List.nil_append, List.replicate_succ, List.replicate_zero]
  simp_arith! [call2 (h1 d 2)]
  cases d with
  | tup xs =>
    by_cases hx : (xs.length : Int) = 2
    · have e1 : isTup 2 (.tup xs) = true := by simp [isTup, hx]
      have hl : xs.length = 2 := by omega
      have hq := q_map (r := r) (t := .nm 1) (own := [1]) (it := .seq (.var 0)) (e := .and (.call 0 (.cons (.frz 1) .nil)) (.op .gt (.cons (.var 1) (.cons (.cst (.int 0)) .nil)))) (env := [some (.val (.tup xs)), none]) (env1 := [some (.val (.tup xs)), none]) (ds := xs)
        (fun x => .bl (posNum x)) (fun x => [some (.val (.tup xs)), some (.val x)]) (by simp!) rfl (by rw [hl]; decide) (fun d _ => rfl) (fun x _ => by
          refine ⟨.mv (.val (.bl (posNum x))), ?_, rfl⟩
          simp! [call1 (h0 x)]
          cases x with
          | int i =>
            by_cases hi : 0 ≤ i
            · rw [show isNum (.int i) = true from by simp [isNum, hi]]
              rfl
            · have : ¬ 0 < i := by omega
              rw [show isNum (.int i) = false from by simp [isNum, hi], show posNum (.int i) = false from by simp [posNum, this]]
          | _ => rfl) (fun d _ => rfl)
      simp_arith! [e1, hq, v_all, bools_map, all_id]
      refine ⟨?_, by simp [back, wipe]⟩
      simp [isRun, hl]
    · have e1 : isTup 2 (.tup xs) = false := by simp [isTup, hx]
      simp_arith! [e1]
      have : ¬ xs.length = 2 := by omega
      simp [isRun, this]
  | _ => exact ⟨rfl, Nat.succ_le_succ (Nat.zero_le _)⟩
end
end Rx

/-! RxF2 -/
/-! RxF2: whether a number is in a set: tells, _law_in. -/
set_option linter.all false
set_option Elab.async false
set_option maxRecDepth 100000
set_option maxHeartbeats 4000000
namespace Rx
local macro_rules
  | `(tactic| simp!) => `(tactic| simp only [slot_z, slot_1, slot_2, slot_3, slot_4, slot_5, slot_6, slot_7, slot_8, slot_9, slot_10, slot_11, slot_12, q_var, q_frz, q_cst, q_op, q_call, q_callK, q_tup, q_lst, q_ite, q_and, q_or, q_not, q_chain, q_pop, q_exAt, es_nil, es_cons, ks_nil, ks_cons, t_and, t_or, t_not, t_op, t_var, t_call, t_callK, t_chain, t_cst, c_yes, c_one, b_ok, b_exc, o_ok, o_exc, of_some, g_val, g_new, g_ref, gs_nil, gs_cons, k_val, k_new, tk_val, tk_new, tk_deal, gv_val, gv_new, gv_ref, m_val, m_new, p_nm, p_tp, p_tpp, putD_nil, putD_cons, putM_nil, putM_cons, put_def, free_def, ts_nil, ts_cons, t1_ok, t1_exc, tr_bl, tr_non, ss_nil, ss_cons, s_asg, s_par, s_aug, s_app, s_ext, s_pop, s_expr, s_doc, s_ret, s_retN, s_pass, s_brk, s_cnt, s_ite, s_raise, s_setix, s_ins, i_seq, i_rg1, i_rg2, i_enum, i_zip, i_rev, sq_lst, sq_tup, wl_vs, v_add, v_sub, v_neg, v_lt, v_le, v_gt, v_ge, v_isN, v_notN, v_isB, v_notB, v_rev, v_lenL, v_lenT, v_abs, v_int, v_listL, v_listT, v_tupleL, v_tupleT, v_max2, v_min2, v_isa, Option.bind_some, List.set_cons_zero, List.set_cons_succ, List.length_cons, List.length_nil, if_true, if_false, reduceIte, Bool.false_eq_true, decide_true, decide_false, isOwn])
  | `(tactic| simp! [$ls,*]) => `(tactic| simp only [slot_z, slot_1, slot_2, slot_3, slot_4, slot_5, slot_6, slot_7, slot_8, slot_9, slot_10, slot_11, slot_12, q_var, q_frz, q_cst, q_op, q_call, q_callK, q_tup, q_lst, q_ite, q_and, q_or, q_not, q_chain, q_pop, q_exAt, es_nil, es_cons, ks_nil, ks_cons, t_and, t_or, t_not, t_op, t_var, t_call, t_callK, t_chain, t_cst, c_yes, c_one, b_ok, b_exc, o_ok, o_exc, of_some, g_val, g_new, g_ref, gs_nil, gs_cons, k_val, k_new, tk_val, tk_new, tk_deal, gv_val, gv_new, gv_ref, m_val, m_new, p_nm, p_tp, p_tpp, putD_nil, putD_cons, putM_nil, putM_cons, put_def, free_def, ts_nil, ts_cons, t1_ok, t1_exc, tr_bl, tr_non, ss_nil, ss_cons, s_asg, s_par, s_aug, s_app, s_ext, s_pop, s_expr, s_doc, s_ret, s_retN, s_pass, s_brk, s_cnt, s_ite, s_raise, s_setix, s_ins, i_seq, i_rg1, i_rg2, i_enum, i_zip, i_rev, sq_lst, sq_tup, wl_vs, v_add, v_sub, v_neg, v_lt, v_le, v_gt, v_ge, v_isN, v_notN, v_isB, v_notB, v_rev, v_lenL, v_lenT, v_abs, v_int, v_listL, v_listT, v_tupleL, v_tupleT, v_max2, v_min2, v_isa, Option.bind_some, List.set_cons_zero, List.set_cons_succ, List.length_cons, List.length_nil, if_true, if_false, reduceIte, Bool.false_eq_true, decide_true, decide_false, isOwn, $ls,*])
local macro_rules
  | `(tactic| simp_arith!) => `(tactic| simp (config := { dsimp := false, implicitDefEqProofs := false }) only [↓wp_bind, ↓wp_o, ↓wo_cons, ↓wp_test1, ↓wp_ok, ↓w_op, ↓w_call, ↓w_callK, ↓w_tup, ↓w_lst, ↓w_ite, ↓w_es_nil, ↓w_es, ↓w_ks_nil, ↓w_ks, keptQ_val, keptQ_new, ↓w_and, ↓w_or, ↓w_not, ↓w_top, ↓w_tvar, ↓w_tcall, ↓w_tcallK, ↓w_teqR, ↓w_asg, ↓w_ret, ↓w_site, ↓w_expr, ↓w_par, ↓w_eqR, slot_z, slot_1, slot_2, slot_3, slot_4, slot_5, slot_6, slot_7, slot_8, slot_9, slot_10, slot_11, slot_12, q_var, q_frz, q_cst, q_op, q_call, q_callK, q_tup, q_lst, q_ite, q_and, q_or, q_not, q_chain, q_pop, q_exAt, es_nil, es_cons, ks_nil, ks_cons, t_and, t_or, t_not, t_op, t_var, t_call, t_callK, t_chain, t_cst, t_eqR, q_eqR, c_yes, c_one, b_ok, b_exc, o_ok, o_exc, of_some, g_val, g_new, g_ref, gs_nil, gs_cons, k_val, k_new, tk_val, tk_new, tk_deal, gv_val, gv_new, gv_ref, m_val, m_new, p_nm, p_tp, p_tpp, putD_nil, putD_cons, putM_nil, putM_cons, put_def, free_def, ts_nil, ts_cons, t1_ok, t1_exc, tr_bl, tr_non, ss_nil, s_asg, s_par, s_aug, s_app, s_ext, s_pop, s_expr, s_doc, s_ret, s_retN, s_pass, s_brk, s_cnt, s_ite, s_raise, s_setix, s_ins, i_seq, i_rg1, i_rg2, i_enum, i_zip, i_rev, sq_lst, sq_tup, wl_vs, v_add, v_sub, v_neg, v_lt, v_le, v_gt, v_ge, v_isN, v_notN, v_isB, v_notB, v_rev, v_lenL, v_lenT, v_abs, v_int, v_listL, v_listT, v_tupleL, v_tupleT, v_max2, v_min2, v_isa, Option.bind_some, List.set_cons_zero, List.set_cons_succ, List.length_cons, List.length_nil, if_true, if_false, reduceIte, Bool.false_eq_true, Bool.true_eq_false, decide_true, decide_false, isOwn, wp_ok, wp_exc, wp_bind, wp_o, wp_ite, wo_ite, wo_nx, wo_rt, wo_bk, wo_ct, wo_exc, wo_cons, wp_test1, tst_mk, v_eqI, v_neI, decide_eq_true_eq, Bool.not_eq_true', decide_eq_false_iff_not, Nat.reduceAdd, Nat.reduceLT, Nat.reduceLeDiff, Nat.zero_add, and_true, true_and])
  | `(tactic| simp_arith! [$ls,*]) => `(tactic| simp (config := { dsimp := false, implicitDefEqProofs := false }) only [↓wp_bind, ↓wp_o, ↓wo_cons, ↓wp_test1, ↓wp_ok, ↓w_op, ↓w_call, ↓w_callK, ↓w_tup, ↓w_lst, ↓w_ite, ↓w_es_nil, ↓w_es, ↓w_ks_nil, ↓w_ks, keptQ_val, keptQ_new, ↓w_and, ↓w_or, ↓w_not, ↓w_top, ↓w_tvar, ↓w_tcall, ↓w_tcallK, ↓w_teqR, ↓w_asg, ↓w_ret, ↓w_site, ↓w_expr, ↓w_par, ↓w_eqR, slot_z, slot_1, slot_2, slot_3, slot_4, slot_5, slot_6, slot_7, slot_8, slot_9, slot_10, slot_11, slot_12, q_var, q_frz, q_cst, q_op, q_call, q_callK, q_tup, q_lst, q_ite, q_and, q_or, q_not, q_chain, q_pop, q_exAt, es_nil, es_cons, ks_nil, ks_cons, t_and, t_or, t_not, t_op, t_var, t_call, t_callK, t_chain, t_cst, t_eqR, q_eqR, c_yes, c_one, b_ok, b_exc, o_ok, o_exc, of_some, g_val, g_new, g_ref, gs_nil, gs_cons, k_val, k_new, tk_val, tk_new, tk_deal, gv_val, gv_new, gv_ref, m_val, m_new, p_nm, p_tp, p_tpp, putD_nil, putD_cons, putM_nil, putM_cons, put_def, free_def, ts_nil, ts_cons, t1_ok, t1_exc, tr_bl, tr_non, ss_nil, s_asg, s_par, s_aug, s_app, s_ext, s_pop, s_expr, s_doc, s_ret, s_retN, s_pass, s_brk, s_cnt, s_ite, s_raise, s_setix, s_ins, i_seq, i_rg1, i_rg2, i_enum, i_zip, i_rev, sq_lst, sq_tup, wl_vs, v_add, v_sub, v_neg, v_lt, v_le, v_gt, v_ge, v_isN, v_notN, v_isB, v_notB, v_rev, v_lenL, v_lenT, v_abs, v_int, v_listL, v_listT, v_tupleL, v_tupleT, v_max2, v_min2, v_isa, Option.bind_some, List.set_cons_zero, List.set_cons_succ, List.length_cons, List.length_nil, if_true, if_false, reduceIte, Bool.false_eq_true, Bool.true_eq_false, decide_true, decide_false, isOwn, wp_ok, wp_exc, wp_bind, wp_o, wp_ite, wo_ite, wo_nx, wo_rt, wo_bk, wo_ct, wo_exc, wo_cons, wp_test1, tst_mk, v_eqI, v_neI, decide_eq_true_eq, Bool.not_eq_true', decide_eq_false_iff_not, Nat.reduceAdd, Nat.reduceLT, Nat.reduceLeDiff, Nat.zero_add, and_true, true_and, $ls,*])
/-- runs and the end, done from b on -/
def inF : List (Int × Int) → Int → Int → Int → Bool
  | [], e, b, n => if e = 0 then decide (n = b) else decide ((n - b) % e = 0)
  | (s, t) :: r, e, b, n => if n ≤ b + s * t then decide ((n - b) % s = 0) else inF r e (b + s * t) n
def runD (p : Int × Int) : D := .tup [.int p.1, .int p.2]
def rowD (r : List (Int × Int)) (e : Int) : D := .tup [.tup (r.map runD), .int e]
def sumR (r : List (Int × Int)) : Int := (r.map fun p => p.1 * p.2).sum
/-- runs that may be reckoned with -/
def RunsOk (r : List (Int × Int)) : Prop := ∀ p ∈ r, 0 < p.1 ∧ p.1.natAbs.log2 + p.2.natAbs.log2 < 1000000
theorem sumR_take {rs : List (Int × Int)} {k : Nat} {p : Int × Int} (h : rs[k]? = some p) : sumR (rs.take (k + 1)) = sumR (rs.take k) + p.1 * p.2 := by
  have et : rs.take (k + 1) = rs.take k ++ [p] := by rw [List.take_add_one, h]; rfl
  rw [et]
  simp [sumR]
/-- a slot that is empty or holds a value -/
def Vl (o : Option M) : Prop := o = none ∨ ∃ d, o = some (.val d)
section
variable {r : Fs}
theorem f_tells {rs : List (Int × Int)} {e n : Int} (ok : RunsOk rs) (he : 0 ≤ e) : denF r 3 6 B_tells [.val (.tup (rs.map runD)), .val (.int e), .val (.int n)] = .ok (.val (.bl (inF rs e 0 n))) [.val (.tup (rs.map runD)), .val (.int e), .val (.int n)] := by
  refine fn_is (ds := [.tup (rs.map runD), .int e, .int n]) rfl ?_
  unfold B_tells
  simp only [List.map_cons, List.map_nil, List.cons_append, List.nil_append, List.replicate_succ, List.replicate_zero]
  simp_arith! [s_for]
  refine for_wp (w := .vs (rs.map runD)) (ds := rs.map runD) (fun k env => ∃ l4 l5, Vl l4 ∧ Vl l5 ∧ env = [some (.val (.tup (rs.map runD))), some (.val (.int e)), some (.val (.int n)), some (.val (.int (sumR (rs.take k)))), l4, l5] ∧ inF (rs.drop k) e (sumR (rs.take k)) n = inF rs e 0 n)
    (fun k e _ => rfl) ?_ ?_ ((rs.map runD).length + 1) 0 _ ⟨none, none, .inl rfl, .inl rfl, rfl, rfl⟩ (Nat.zero_le _) (by omega)
  · rintro k env d ⟨l4, l5, h4, h5, rfl, hin⟩ hd
    rw [List.getElem?_map] at hd
    obtain ⟨⟨s, t⟩, hp, rfl⟩ := Option.map_eq_some_iff.mp hd
    obtain ⟨o1, o2⟩ := ok _ (List.mem_of_getElem? hp)
    dsimp only at o1 o2
    refine ⟨[some (.val (.tup (rs.map runD))), some (.val (.int e)), some (.val (.int n)), some (.val (.int (sumR (rs.take k)))), some (.val (.int s)), some (.val (.int t))], ?_, ?_⟩
    · rcases h4 with rfl | ⟨_, rfl⟩ <;> rcases h5 with rfl | ⟨_, rfl⟩ <;> rfl
    unfold B_tells_1
    rw [drop_at hp] at hin
    simp_arith! [v_mul, if_pos o2, v_mod, if_pos o1]
    by_cases c : n ≤ sumR (rs.take k) + s * t
    · rw [if_pos c]
      rw [inF, if_pos c] at hin
      rw [hin]
    · rw [if_neg c]
      refine ⟨some (.val (.int s)), some (.val (.int t)), .inr ⟨_, rfl⟩, .inr ⟨_, rfl⟩, ?_, ?_⟩
      · rw [sumR_take hp]
      · rw [inF, if_neg c] at hin
        rw [sumR_take hp]
        exact hin
  · rintro env ⟨l4, l5, h4, h5, rfl, hin⟩
    rw [List.length_map, List.drop_length] at hin
    rw [List.length_map]
    unfold B_tells_1t
    simp_arith!
    by_cases c : e = 0
    · rw [if_pos c]
      rw [inF, if_pos c] at hin
      rw [hin]
    · rw [if_neg c]
      have e1 : 0 < e := by omega
      simp_arith! [v_mod, if_pos e1]
      rw [inF, if_neg c] at hin
      rw [hin]
theorem place0 {n : Nat} (h : 0 < n) : place n 0 = some 0 := by unfold place; rw [if_pos (by decide), if_pos (by omega)]; rfl
theorem place1 {n : Nat} (h : 1 < n) : place n 1 = some 1 := by unfold place; rw [if_pos (by decide), if_pos (by omega)]; rfl
theorem ix0 (a : D) (xs : List D) : evalOp .ix [.tup (a :: xs), .int 0] = some (.val a) := by rw [v_ixT, place0 (by simp)]; rfl
theorem ix1 (a b : D) (xs : List D) : evalOp .ix [.tup (a :: b :: xs), .int 1] = some (.val b) := by rw [v_ixT, place1 (by simp)]; rfl
theorem f_law_in {rs : List (Int × Int)} {e n : Int} (ok : RunsOk rs) (he : 0 ≤ e) : denF r 2 5 B__law_in [.val (rowD rs e), .val (.int n)] = .ok (.val (.bl (inF rs e 0 n))) [.val (rowD rs e), .val (.int n)] := by
  refine fn_is (ds := [rowD rs e, .int n]) rfl ?_
  unfold B__law_in
  simp only [List.map_cons, List.map_nil, List.cons_append, List.nil_append, List.replicate_succ, List.replicate_zero]
  simp_arith! [s_for, rowD, ix0]
  refine for_wp (w := .vs (rs.map runD)) (ds := rs.map runD) (fun k env => ∃ l4 l5, Vl l4 ∧ Vl l5 ∧ env = [some (.val (rowD rs e)), some (.val (.int n)), some (.val (.int (sumR (rs.take k)))), l4, l5] ∧ inF (rs.drop k) e (sumR (rs.take k)) n = inF rs e 0 n)
    (fun k e _ => rfl) ?_ ?_ ((rs.map runD).length + 1) 0 _ ⟨none, none, .inl rfl, .inl rfl, rfl, rfl⟩ (Nat.zero_le _) (by omega)
  · rintro k env d ⟨l4, l5, h4, h5, rfl, hin⟩ hd
    rw [List.getElem?_map] at hd
    obtain ⟨⟨s, t⟩, hp, rfl⟩ := Option.map_eq_some_iff.mp hd
    obtain ⟨o1, o2⟩ := ok _ (List.mem_of_getElem? hp)
    dsimp only at o1 o2
    refine ⟨[some (.val (rowD rs e)), some (.val (.int n)), some (.val (.int (sumR (rs.take k)))), some (.val (.int s)), some (.val (.int t))], ?_, ?_⟩
    · rcases h4 with rfl | ⟨_, rfl⟩ <;> rcases h5 with rfl | ⟨_, rfl⟩ <;> rfl
    unfold B__law_in_1
    rw [drop_at hp] at hin
    simp_arith! [v_mul, if_pos o2, v_mod, if_pos o1]
    by_cases c : n ≤ sumR (rs.take k) + s * t
    · rw [if_pos c]
      rw [inF, if_pos c] at hin
      rw [hin]
    · rw [if_neg c]
      refine ⟨some (.val (.int s)), some (.val (.int t)), .inr ⟨_, rfl⟩, .inr ⟨_, rfl⟩, ?_, ?_⟩
      · rw [sumR_take hp]
      · rw [inF, if_neg c] at hin
        rw [sumR_take hp]
        exact hin
  · rintro env ⟨l4, l5, h4, h5, rfl, hin⟩
    rw [List.length_map, List.drop_length] at hin
    rw [List.length_map]
    unfold B__law_in_1t
    simp_arith! [rowD, ix1]
    by_cases c : e = 0
    · rw [if_pos c]
      rw [inF, if_pos c] at hin
      rw [hin]
    · rw [if_neg c]
      have e1 : 0 < e := by omega
      simp_arith! [v_mod, if_pos e1]
      rw [inF, if_neg c] at hin
      rw [hin]
end
end Rx

/-! RxF3 -/
/-! RxF3: whether any value is a falling row: the program's way. -/
set_option linter.all false
set_option Elab.async false
set_option maxRecDepth 100000
set_option maxHeartbeats 4000000
namespace Rx
local macro_rules
  | `(tactic| simp!) => `(tactic| simp only [slot_z, slot_1, slot_2, slot_3, slot_4, slot_5, slot_6, slot_7, slot_8, slot_9, slot_10, slot_11, slot_12, q_var, q_frz, q_cst, q_op, q_call, q_callK, q_tup, q_lst, q_ite, q_and, q_or, q_not, q_chain, q_pop, q_exAt, es_nil, es_cons, ks_nil, ks_cons, t_and, t_or, t_not, t_op, t_var, t_call, t_callK, t_chain, t_cst, c_yes, c_one, b_ok, b_exc, o_ok, o_exc, of_some, g_val, g_new, g_ref, gs_nil, gs_cons, k_val, k_new, tk_val, tk_new, tk_deal, gv_val, gv_new, gv_ref, m_val, m_new, p_nm, p_tp, p_tpp, putD_nil, putD_cons, putM_nil, putM_cons, put_def, free_def, ts_nil, ts_cons, t1_ok, t1_exc, tr_bl, tr_non, ss_nil, ss_cons, s_asg, s_par, s_aug, s_app, s_ext, s_pop, s_expr, s_doc, s_ret, s_retN, s_pass, s_brk, s_cnt, s_ite, s_raise, s_setix, s_ins, i_seq, i_rg1, i_rg2, i_enum, i_zip, i_rev, sq_lst, sq_tup, wl_vs, v_add, v_sub, v_neg, v_lt, v_le, v_gt, v_ge, v_isN, v_notN, v_isB, v_notB, v_rev, v_lenL, v_lenT, v_abs, v_int, v_listL, v_listT, v_tupleL, v_tupleT, v_max2, v_min2, v_isa, Option.bind_some, List.set_cons_zero, List.set_cons_succ, List.length_cons, List.length_nil, if_true, if_false, reduceIte, Bool.false_eq_true, decide_true, decide_false, isOwn])
  | `(tactic| simp! [$ls,*]) => `(tactic| simp only [slot_z, slot_1, slot_2, slot_3, slot_4, slot_5, slot_6, slot_7, slot_8, slot_9, slot_10, slot_11, slot_12, q_var, q_frz, q_cst, q_op, q_call, q_callK, q_tup, q_lst, q_ite, q_and, q_or, q_not, q_chain, q_pop, q_exAt, es_nil, es_cons, ks_nil, ks_cons, t_and, t_or, t_not, t_op, t_var, t_call, t_callK, t_chain, t_cst, c_yes, c_one, b_ok, b_exc, o_ok, o_exc, of_some, g_val, g_new, g_ref, gs_nil, gs_cons, k_val, k_new, tk_val, tk_new, tk_deal, gv_val, gv_new, gv_ref, m_val, m_new, p_nm, p_tp, p_tpp, putD_nil, putD_cons, putM_nil, putM_cons, put_def, free_def, ts_nil, ts_cons, t1_ok, t1_exc, tr_bl, tr_non, ss_nil, ss_cons, s_asg, s_par, s_aug, s_app, s_ext, s_pop, s_expr, s_doc, s_ret, s_retN, s_pass, s_brk, s_cnt, s_ite, s_raise, s_setix, s_ins, i_seq, i_rg1, i_rg2, i_enum, i_zip, i_rev, sq_lst, sq_tup, wl_vs, v_add, v_sub, v_neg, v_lt, v_le, v_gt, v_ge, v_isN, v_notN, v_isB, v_notB, v_rev, v_lenL, v_lenT, v_abs, v_int, v_listL, v_listT, v_tupleL, v_tupleT, v_max2, v_min2, v_isa, Option.bind_some, List.set_cons_zero, List.set_cons_succ, List.length_cons, List.length_nil, if_true, if_false, reduceIte, Bool.false_eq_true, decide_true, decide_false, isOwn, $ls,*])
local macro_rules
  | `(tactic| simp_arith!) => `(tactic| simp (config := { dsimp := false, implicitDefEqProofs := false }) only [↓wp_bind, ↓wp_o, ↓wo_cons, ↓wp_test1, ↓wp_ok, ↓w_op, ↓w_call, ↓w_callK, ↓w_tup, ↓w_lst, ↓w_ite, ↓w_es_nil, ↓w_es, ↓w_ks_nil, ↓w_ks, keptQ_val, keptQ_new, ↓w_and, ↓w_or, ↓w_not, ↓w_top, ↓w_tvar, ↓w_tcall, ↓w_tcallK, ↓w_teqR, ↓w_asg, ↓w_ret, ↓w_site, ↓w_expr, ↓w_par, ↓w_eqR, slot_z, slot_1, slot_2, slot_3, slot_4, slot_5, slot_6, slot_7, slot_8, slot_9, slot_10, slot_11, slot_12, q_var, q_frz, q_cst, q_op, q_call, q_callK, q_tup, q_lst, q_ite, q_and, q_or, q_not, q_chain, q_pop, q_exAt, es_nil, es_cons, ks_nil, ks_cons, t_and, t_or, t_not, t_op, t_var, t_call, t_callK, t_chain, t_cst, t_eqR, q_eqR, c_yes, c_one, b_ok, b_exc, o_ok, o_exc, of_some, g_val, g_new, g_ref, gs_nil, gs_cons, k_val, k_new, tk_val, tk_new, tk_deal, gv_val, gv_new, gv_ref, m_val, m_new, p_nm, p_tp, p_tpp, putD_nil, putD_cons, putM_nil, putM_cons, put_def, free_def, ts_nil, ts_cons, t1_ok, t1_exc, tr_bl, tr_non, ss_nil, s_asg, s_par, s_aug, s_app, s_ext, s_pop, s_expr, s_doc, s_ret, s_retN, s_pass, s_brk, s_cnt, s_ite, s_raise, s_setix, s_ins, i_seq, i_rg1, i_rg2, i_enum, i_zip, i_rev, sq_lst, sq_tup, wl_vs, v_add, v_sub, v_neg, v_lt, v_le, v_gt, v_ge, v_isN, v_notN, v_isB, v_notB, v_rev, v_lenL, v_lenT, v_abs, v_int, v_listL, v_listT, v_tupleL, v_tupleT, v_max2, v_min2, v_isa, Option.bind_some, List.set_cons_zero, List.set_cons_succ, List.length_cons, List.length_nil, if_true, if_false, reduceIte, Bool.false_eq_true, Bool.true_eq_false, decide_true, decide_false, isOwn, wp_ok, wp_exc, wp_bind, wp_o, wp_ite, wo_ite, wo_nx, wo_rt, wo_bk, wo_ct, wo_exc, wo_cons, wp_test1, tst_mk, v_eqI, v_neI, decide_eq_true_eq, Bool.not_eq_true', decide_eq_false_iff_not, Nat.reduceAdd, Nat.reduceLT, Nat.reduceLeDiff, Nat.zero_add, and_true, true_and])
  | `(tactic| simp_arith! [$ls,*]) => `(tactic| simp (config := { dsimp := false, implicitDefEqProofs := false }) only [↓wp_bind, ↓wp_o, ↓wo_cons, ↓wp_test1, ↓wp_ok, ↓w_op, ↓w_call, ↓w_callK, ↓w_tup, ↓w_lst, ↓w_ite, ↓w_es_nil, ↓w_es, ↓w_ks_nil, ↓w_ks, keptQ_val, keptQ_new, ↓w_and, ↓w_or, ↓w_not, ↓w_top, ↓w_tvar, ↓w_tcall, ↓w_tcallK, ↓w_teqR, ↓w_asg, ↓w_ret, ↓w_site, ↓w_expr, ↓w_par, ↓w_eqR, slot_z, slot_1, slot_2, slot_3, slot_4, slot_5, slot_6, slot_7, slot_8, slot_9, slot_10, slot_11, slot_12, q_var, q_frz, q_cst, q_op, q_call, q_callK, q_tup, q_lst, q_ite, q_and, q_or, q_not, q_chain, q_pop, q_exAt, es_nil, es_cons, ks_nil, ks_cons, t_and, t_or, t_not, t_op, t_var, t_call, t_callK, t_chain, t_cst, t_eqR, q_eqR, c_yes, c_one, b_ok, b_exc, o_ok, o_exc, of_some, g_val, g_new, g_ref, gs_nil, gs_cons, k_val, k_new, tk_val, tk_new, tk_deal, gv_val, gv_new, gv_ref, m_val, m_new, p_nm, p_tp, p_tpp, putD_nil, putD_cons, putM_nil, putM_cons, put_def, free_def, ts_nil, ts_cons, t1_ok, t1_exc, tr_bl, tr_non, ss_nil, s_asg, s_par, s_aug, s_app, s_ext, s_pop, s_expr, s_doc, s_ret, s_retN, s_pass, s_brk, s_cnt, s_ite, s_raise, s_setix, s_ins, i_seq, i_rg1, i_rg2, i_enum, i_zip, i_rev, sq_lst, sq_tup, wl_vs, v_add, v_sub, v_neg, v_lt, v_le, v_gt, v_ge, v_isN, v_notN, v_isB, v_notB, v_rev, v_lenL, v_lenT, v_abs, v_int, v_listL, v_listT, v_tupleL, v_tupleT, v_max2, v_min2, v_isa, Option.bind_some, List.set_cons_zero, List.set_cons_succ, List.length_cons, List.length_nil, if_true, if_false, reduceIte, Bool.false_eq_true, Bool.true_eq_false, decide_true, decide_false, isOwn, wp_ok, wp_exc, wp_bind, wp_o, wp_ite, wo_ite, wo_nx, wo_rt, wo_bk, wo_ct, wo_exc, wo_cons, wp_test1, tst_mk, v_eqI, v_neI, decide_eq_true_eq, Bool.not_eq_true', decide_eq_false_iff_not, Nat.reduceAdd, Nat.reduceLT, Nat.reduceLeDiff, Nat.zero_add, and_true, true_and, $ls,*])
def runOf : D → Option (Int × Int)
  | .tup [.int s, .int t] => if 0 < s ∧ 0 < t then some (s, t) else none
  | _ => none
def runsOf : List D → Option (List (Int × Int))
  | [] => some []
  | d :: ds => match runOf d, runsOf ds with
    | some p, some ps => some (p :: ps)
    | _, _ => none
theorem runOf_some {d : D} {p : Int × Int} (h : runOf d = some p) : d = runD p ∧ 0 < p.1 ∧ 0 < p.2 := by
  unfold runOf at h
  split at h
  · split at h
    · rename_i c
      cases h
      exact ⟨rfl, c⟩
    · cases h
  · cases h
theorem runOf_runD {p : Int × Int} (h : 0 < p.1 ∧ 0 < p.2) : runOf (runD p) = some p := by
  show (if 0 < p.1 ∧ 0 < p.2 then some (p.1, p.2) else none) = some p
  rw [if_pos h]
theorem isRun_of (d : D) : isRun d = (runOf d).isSome := by
  cases d with
  | tup xs =>
    match xs with
    | [] => rfl
    | [a] => simp [isRun, runOf]
    | [a, b] =>
      cases a <;> cases b <;> simp [isRun, runOf, posNum]
      split <;> simp_all
    | a :: b :: c :: l => simp [isRun, runOf]
  | _ => rfl
theorem runsOf_all : ∀ ds : List D, ds.all isRun = (runsOf ds).isSome
  | [] => rfl
  | d :: ds => by
    rw [List.all_cons, runsOf_all ds, isRun_of, runsOf]
    cases runOf d <;> cases runsOf ds <;> rfl
theorem runsOf_some : ∀ {ds : List D} {ps : List (Int × Int)}, runsOf ds = some ps → ds = ps.map runD ∧ ∀ p ∈ ps, 0 < p.1 ∧ 0 < p.2
  | [], ps, h => by
    cases h
    exact ⟨rfl, fun p hp => (by cases hp)⟩
  | d :: ds, ps, h => by
    unfold runsOf at h
    cases e1 : runOf d with
    | none => rw [e1] at h; cases h
    | some p =>
      cases e2 : runsOf ds with
      | none => rw [e1, e2] at h; cases h
      | some qs =>
        rw [e1, e2] at h
        cases h
        obtain ⟨a1, a2⟩ := runOf_some e1
        obtain ⟨b1, b2⟩ := runsOf_some e2
        refine ⟨by rw [a1, b1]; rfl, fun q hq => ?_⟩
        rcases List.mem_cons.mp hq with rfl | hq
        · exact a2
        · exact b2 q hq
theorem runsOf_map : ∀ {ps : List (Int × Int)}, (∀ p ∈ ps, 0 < p.1 ∧ 0 < p.2) → runsOf (ps.map runD) = some ps
  | [], _ => rfl
  | p :: ps, h => by
    rw [List.map_cons, runsOf, runOf_runD (h p (List.mem_cons_self ..)), runsOf_map fun q hq => h q (List.mem_cons_of_mem _ hq)]
/-- the first step -/
def hdR : List (Int × Int) → Int → Int
  | [], e => e
  | (s, _) :: _, _ => s
def fallB : List (Int × Int) → Int → Bool
  | [], _ => true
  | (s, t) :: r, e => decide (hdR r e < s) && inF r e 0 s && fallB r e
/-- the right form -/
def formB : D → Bool
  | .tup [.tup ds, .int e] => decide (0 ≤ e) && ds.all isRun && (decide (0 < e) || ds.isEmpty)
  | _ => false
def isFall : D → Bool
  | .tup [.tup ds, .int e] => decide (0 ≤ e) && match runsOf ds with
    | some rs => (decide (0 < e) || ds.isEmpty) && fallB rs e
    | none => false
  | _ => false
/-- a value of which it may be asked -/
structure Mild (d : D) : Prop where
  few : ∀ ds l, d = .tup (.tup ds :: l) → ds.length ≤ 2000
  mul : ∀ ds e rs, d = .tup [.tup ds, .int e] → runsOf ds = some rs → ∀ p ∈ rs, p.1.natAbs.log2 + p.2.natAbs.log2 < 1000000
section
variable {r : Fs}
theorem f_has_form (h0 : ∀ d, r 0 [.val d] = .ok (.val (.bl (isNum d))) [.val d]) (h1 : ∀ d n, r 1 [.val d, .val (.int n)] = .ok (.val (.bl (isTup n d))) [.val d, .val (.int n)]) (h3 : ∀ d, r 3 [.val d] = .ok (.val (.bl (isRun d))) [.val d]) {d : D} (m : Mild d) :
    denF r 1 2 B_has_form [.val d] = .ok (.val (.bl (formB d))) [.val d] := by
  refine fn_is (ds := [d]) rfl ?_
  unfold B_has_form
  simp only [List.map_cons, List.map_nil, List.cons_append, List.nil_append, List.replicate_succ, List.replicate_zero]
  cases ht : isTup 2 d with
  | false =>
    simp_arith! [call2 (h1 d 2), ht, Bool.not_false]
    have : formB d = false := by
      unfold formB
      split
      · simp [isTup] at ht
      · rfl
    rw [this]
  | true =>
    have hd : ∃ a b, d = .tup [a, b] := by
      cases d with
      | tup xs =>
        simp [isTup] at ht
        have : xs.length = 2 := by omega
        match xs, this with
        | [a, b], _ => exact ⟨a, b, rfl⟩
      | _ => simp [isTup] at ht
    obtain ⟨a, b, rfl⟩ := hd
    cases a with
    | tup ds =>
      cases hb : isNum b with
      | false =>
        simp_arith! [call2 (h1 _ 2), ht, Bool.not_true, Bool.not_false, ix0, ix1, isa, call1 (h0 b), hb]
        have : formB (.tup [.tup ds, b]) = false := by
          cases b <;> simp [formB, isNum] at hb ⊢
          omega
        rw [this]
      | true =>
        cases b with
        | int e =>
          have he : 0 ≤ e := by simpa [isNum] using hb
          have hl : ds.length ≤ 2000 := m.few ds _ rfl
          have hq := q_map (r := r) (t := .nm 1) (own := [1]) (it := .seq (.op .ix (.cons (.var 0) (.cons (.cst (.int 0)) .nil)))) (e := .call 3 (.cons (.frz 1) .nil)) (env := [some (.val (.tup [.tup ds, .int e])), none]) (env1 := [some (.val (.tup [.tup ds, .int e])), none]) (ds := ds)
            (fun x => .bl (isRun x)) (fun x => [some (.val (.tup [.tup ds, .int e])), some (.val x)]) (by simp! [ix0]) rfl (by unfold maxLen; omega) (fun d _ => rfl) (fun x _ => ⟨.mv (.val (.bl (isRun x))), by simp! [call1 (h3 x)], rfl⟩) (fun d _ => rfl)
          cases ha : ds.all isRun with
          | false =>
            simp_arith! [call2 (h1 _ 2), ht, Bool.not_true, Bool.not_false, ix0, ix1, isa, call1 (h0 _), hb, hq, v_all, bools_map, all_id, back, wipe, ha, Option.map_some, Option.join_some]
            simp [formB, ha, he]
          | true =>
            by_cases h0' : 0 < e
            · simp_arith! [call2 (h1 _ 2), ht, Bool.not_true, Bool.not_false, ix0, ix1, isa, call1 (h0 _), hb, hq, v_all, bools_map, all_id, back, wipe, ha, Option.map_some, Option.join_some, h0']
              simp [formB, ha, he, h0']
            · simp_arith! [call2 (h1 _ 2), ht, Bool.not_true, Bool.not_false, ix0, ix1, isa, call1 (h0 _), hb, hq, v_all, bools_map, all_id, back, wipe, ha, Option.map_some, Option.join_some, h0']
              simp only [formB, ha, he, h0', decide_true, decide_false, Bool.true_and, Bool.false_or]
              cases ds with
              | nil => rfl
              | cons x l =>
                have : ¬ (((x :: l).length : Nat) : Int) = 0 := by rw [List.length_cons]; omega
                rw [decide_eq_false this]
                rfl
        | _ => simp [isNum] at hb
    | _ =>
      simp_arith! [call2 (h1 _ 2), ht, Bool.not_true, Bool.not_false, ix0, ix1, isa]
      rfl
end
def ascB : List Int → Bool
  | a :: b :: l => decide (a < b) && ascB (b :: l)
  | _ => true
theorem asc_zip : ∀ xs : List Int, (zipL (xs.map .int) ((xs.map D.int).drop 1)).map (fun d => match d with | .tup [.int a, .int b] => decide (a < b) | _ => false) = (xs.zip (xs.drop 1)).map fun p => decide (p.1 < p.2)
  | [] => rfl
  | [a] => rfl
  | a :: b :: l => by
    have ih := asc_zip (b :: l)
    simp only [List.map_cons, List.drop_succ_cons, List.drop_zero, zipL, List.zip_cons_cons] at ih ⊢
    exact congrArg _ ih
theorem asc_all : ∀ xs : List Int, ((xs.zip (xs.drop 1)).map fun p => decide (p.1 < p.2)).all id = ascB xs
  | [] => rfl
  | [a] => rfl
  | a :: b :: l => by
    have ih := asc_all (b :: l)
    simp only [List.drop_succ_cons, List.drop_zero, List.zip_cons_cons, List.map_cons, List.all_cons, id, ascB] at ih ⊢
    rw [ih]
theorem zipL_mem {x : D} : ∀ {xs ys : List Int}, x ∈ zipL (xs.map .int) (ys.map .int) → ∃ a b, x = .tup [.int a, .int b]
  | [], ys, h => by cases h
  | a :: xs, [], h => by cases h
  | a :: xs, b :: ys, h => by
    rcases List.mem_cons.mp h with rfl | h
    · exact ⟨a, b, rfl⟩
    · exact zipL_mem h
theorem zipL_len : ∀ (xs ys : List D), (zipL xs ys).length ≤ xs.length
  | [], _ => Nat.zero_le _
  | _ :: _, [] => Nat.zero_le _
  | x :: xs, y :: ys => by
    simp only [zipL, List.length_cons]
    exact Nat.succ_le_succ (zipL_len xs ys)
theorem cut1 (xs : List D) : cut xs (some 1) none = xs.drop 1 := by
  unfold cut bound
  simp only
  rw [if_neg (by decide)]
  have : min (1 : Int).toNat xs.length = min 1 xs.length := rfl
  rw [this]
  cases xs with
  | nil => rfl
  | cons x l =>
    rw [show min 1 (x :: l).length = 1 by simp]
    simp
section
variable {r : Fs}
theorem f_is_ascending {xs : List Int} (hl : xs.length ≤ maxLen) : denF r 1 3 B_is_ascending [.val (.lst (xs.map .int))] = .ok (.val (.bl (ascB xs))) [.val (.lst (xs.map .int))] := by
  refine fn_is (ds := [.lst (xs.map .int)]) rfl ?_
  unfold B_is_ascending
  simp only [List.map_cons, List.map_nil, List.cons_append, List.nil_append, List.replicate_succ, List.replicate_zero]
  have hq := q_map (r := r) (t := .tp [1, 2]) (own := [1, 2]) (it := .zip (.frz 0) (.op (.sl true false) (.cons (.var 0) (.cons (.cst (.int 1)) .nil)))) (e := .op .lt (.cons (.var 1) (.cons (.var 2) .nil))) (env := [some (.val (.lst (xs.map .int))), none, none]) (env1 := [some (.val (.lst (xs.map .int))), none, none])
    (ds := zipL (xs.map .int) ((xs.map D.int).drop 1)) (fun x => .bl (match x with | .tup [.int a, .int b] => decide (a < b) | _ => false)) (fun x => match x with | .tup [.int a, .int b] => [some (.val (.lst (xs.map .int))), some (.val (.int a)), some (.val (.int b))] | _ => [])
    (by simp! [v_sl10L, cut1, zip2]) rfl (by have := zipL_len (xs.map D.int) ((xs.map D.int).drop 1); rw [List.length_map] at this; omega) (fun d hd => by
      rw [← List.map_drop] at hd
      obtain ⟨a, b, rfl⟩ := zipL_mem hd
      rfl) (fun d hd => by
      rw [← List.map_drop] at hd
      obtain ⟨a, b, rfl⟩ := zipL_mem hd
      exact ⟨_, rfl, rfl⟩) (fun d hd => by
      rw [← List.map_drop] at hd
      obtain ⟨a, b, rfl⟩ := zipL_mem hd
      rfl)
  simp_arith! [hq, v_all, bools_map, back, wipe, Option.map_some]
  rw [asc_zip, asc_all]
end
end Rx

/-! RxM1 -/
/-! RxM1: the mathematics of falling rows and of Euclid's way. -/
set_option linter.all false
set_option Elab.async false
set_option maxRecDepth 100000
set_option maxHeartbeats 4000000
namespace Rx
local macro_rules
  | `(tactic| simp!) => `(tactic| simp only [slot_z, slot_1, slot_2, slot_3, slot_4, slot_5, slot_6, slot_7, slot_8, slot_9, slot_10, slot_11, slot_12, q_var, q_frz, q_cst, q_op, q_call, q_callK, q_tup, q_lst, q_ite, q_and, q_or, q_not, q_chain, q_pop, q_exAt, es_nil, es_cons, ks_nil, ks_cons, t_and, t_or, t_not, t_op, t_var, t_call, t_callK, t_chain, t_cst, c_yes, c_one, b_ok, b_exc, o_ok, o_exc, of_some, g_val, g_new, g_ref, gs_nil, gs_cons, k_val, k_new, tk_val, tk_new, tk_deal, gv_val, gv_new, gv_ref, m_val, m_new, p_nm, p_tp, p_tpp, putD_nil, putD_cons, putM_nil, putM_cons, put_def, free_def, ts_nil, ts_cons, t1_ok, t1_exc, tr_bl, tr_non, ss_nil, ss_cons, s_asg, s_par, s_aug, s_app, s_ext, s_pop, s_expr, s_doc, s_ret, s_retN, s_pass, s_brk, s_cnt, s_ite, s_raise, s_setix, s_ins, i_seq, i_rg1, i_rg2, i_enum, i_zip, i_rev, sq_lst, sq_tup, wl_vs, v_add, v_sub, v_neg, v_lt, v_le, v_gt, v_ge, v_isN, v_notN, v_isB, v_notB, v_rev, v_lenL, v_lenT, v_abs, v_int, v_listL, v_listT, v_tupleL, v_tupleT, v_max2, v_min2, v_isa, Option.bind_some, List.set_cons_zero, List.set_cons_succ, List.length_cons, List.length_nil, if_true, if_false, reduceIte, Bool.false_eq_true, decide_true, decide_false, isOwn])
  | `(tactic| simp! [$ls,*]) => `(tactic| simp only [slot_z, slot_1, slot_2, slot_3, slot_4, slot_5, slot_6, slot_7, slot_8, slot_9, slot_10, slot_11, slot_12, q_var, q_frz, q_cst, q_op, q_call, q_callK, q_tup, q_lst, q_ite, q_and, q_or, q_not, q_chain, q_pop, q_exAt, es_nil, es_cons, ks_nil, ks_cons, t_and, t_or, t_not, t_op, t_var, t_call, t_callK, t_chain, t_cst, c_yes, c_one, b_ok, b_exc, o_ok, o_exc, of_some, g_val, g_new, g_ref, gs_nil, gs_cons, k_val, k_new, tk_val, tk_new, tk_deal, gv_val, gv_new, gv_ref, m_val, m_new, p_nm, p_tp, p_tpp, putD_nil, putD_cons, putM_nil, putM_cons, put_def, free_def, ts_nil, ts_cons, t1_ok, t1_exc, tr_bl, tr_non, ss_nil, ss_cons, s_asg, s_par, s_aug, s_app, s_ext, s_pop, s_expr, s_doc, s_ret, s_retN, s_pass, s_brk, s_cnt, s_ite, s_raise, s_setix, s_ins, i_seq, i_rg1, i_rg2, i_enum, i_zip, i_rev, sq_lst, sq_tup, wl_vs, v_add, v_sub, v_neg, v_lt, v_le, v_gt, v_ge, v_isN, v_notN, v_isB, v_notB, v_rev, v_lenL, v_lenT, v_abs, v_int, v_listL, v_listT, v_tupleL, v_tupleT, v_max2, v_min2, v_isa, Option.bind_some, List.set_cons_zero, List.set_cons_succ, List.length_cons, List.length_nil, if_true, if_false, reduceIte, Bool.false_eq_true, decide_true, decide_false, isOwn, $ls,*])
local macro_rules
  | `(tactic| simp_arith!) => `(tactic| simp (config := { dsimp := false, implicitDefEqProofs := false }) only [↓wp_bind, ↓wp_o, ↓wo_cons, ↓wp_test1, ↓wp_ok, ↓w_op, ↓w_call, ↓w_callK, ↓w_tup, ↓w_lst, ↓w_ite, ↓w_es_nil, ↓w_es, ↓w_ks_nil, ↓w_ks, keptQ_val, keptQ_new, ↓w_and, ↓w_or, ↓w_not, ↓w_top, ↓w_tvar, ↓w_tcall, ↓w_tcallK, ↓w_teqR, ↓w_asg, ↓w_ret, ↓w_site, ↓w_expr, ↓w_par, ↓w_eqR, slot_z, slot_1, slot_2, slot_3, slot_4, slot_5, slot_6, slot_7, slot_8, slot_9, slot_10, slot_11, slot_12, q_var, q_frz, q_cst, q_op, q_call, q_callK, q_tup, q_lst, q_ite, q_and, q_or, q_not, q_chain, q_pop, q_exAt, es_nil, es_cons, ks_nil, ks_cons, t_and, t_or, t_not, t_op, t_var, t_call, t_callK, t_chain, t_cst, t_eqR, q_eqR, c_yes, c_one, b_ok, b_exc, o_ok, o_exc, of_some, g_val, g_new, g_ref, gs_nil, gs_cons, k_val, k_new, tk_val, tk_new, tk_deal, gv_val, gv_new, gv_ref, m_val, m_new, p_nm, p_tp, p_tpp, putD_nil, putD_cons, putM_nil, putM_cons, put_def, free_def, ts_nil, ts_cons, t1_ok, t1_exc, tr_bl, tr_non, ss_nil, s_asg, s_par, s_aug, s_app, s_ext, s_pop, s_expr, s_doc, s_ret, s_retN, s_pass, s_brk, s_cnt, s_ite, s_raise, s_setix, s_ins, i_seq, i_rg1, i_rg2, i_enum, i_zip, i_rev, sq_lst, sq_tup, wl_vs, v_add, v_sub, v_neg, v_lt, v_le, v_gt, v_ge, v_isN, v_notN, v_isB, v_notB, v_rev, v_lenL, v_lenT, v_abs, v_int, v_listL, v_listT, v_tupleL, v_tupleT, v_max2, v_min2, v_isa, Option.bind_some, List.set_cons_zero, List.set_cons_succ, List.length_cons, List.length_nil, if_true, if_false, reduceIte, Bool.false_eq_true, Bool.true_eq_false, decide_true, decide_false, isOwn, wp_ok, wp_exc, wp_bind, wp_o, wp_ite, wo_ite, wo_nx, wo_rt, wo_bk, wo_ct, wo_exc, wo_cons, wp_test1, tst_mk, v_eqI, v_neI, decide_eq_true_eq, Bool.not_eq_true', decide_eq_false_iff_not, Nat.reduceAdd, Nat.reduceLT, Nat.reduceLeDiff, Nat.zero_add, and_true, true_and])
  | `(tactic| simp_arith! [$ls,*]) => `(tactic| simp (config := { dsimp := false, implicitDefEqProofs := false }) only [↓wp_bind, ↓wp_o, ↓wo_cons, ↓wp_test1, ↓wp_ok, ↓w_op, ↓w_call, ↓w_callK, ↓w_tup, ↓w_lst, ↓w_ite, ↓w_es_nil, ↓w_es, ↓w_ks_nil, ↓w_ks, keptQ_val, keptQ_new, ↓w_and, ↓w_or, ↓w_not, ↓w_top, ↓w_tvar, ↓w_tcall, ↓w_tcallK, ↓w_teqR, ↓w_asg, ↓w_ret, ↓w_site, ↓w_expr, ↓w_par, ↓w_eqR, slot_z, slot_1, slot_2, slot_3, slot_4, slot_5, slot_6, slot_7, slot_8, slot_9, slot_10, slot_11, slot_12, q_var, q_frz, q_cst, q_op, q_call, q_callK, q_tup, q_lst, q_ite, q_and, q_or, q_not, q_chain, q_pop, q_exAt, es_nil, es_cons, ks_nil, ks_cons, t_and, t_or, t_not, t_op, t_var, t_call, t_callK, t_chain, t_cst, t_eqR, q_eqR, c_yes, c_one, b_ok, b_exc, o_ok, o_exc, of_some, g_val, g_new, g_ref, gs_nil, gs_cons, k_val, k_new, tk_val, tk_new, tk_deal, gv_val, gv_new, gv_ref, m_val, m_new, p_nm, p_tp, p_tpp, putD_nil, putD_cons, putM_nil, putM_cons, put_def, free_def, ts_nil, ts_cons, t1_ok, t1_exc, tr_bl, tr_non, ss_nil, s_asg, s_par, s_aug, s_app, s_ext, s_pop, s_expr, s_doc, s_ret, s_retN, s_pass, s_brk, s_cnt, s_ite, s_raise, s_setix, s_ins, i_seq, i_rg1, i_rg2, i_enum, i_zip, i_rev, sq_lst, sq_tup, wl_vs, v_add, v_sub, v_neg, v_lt, v_le, v_gt, v_ge, v_isN, v_notN, v_isB, v_notB, v_rev, v_lenL, v_lenT, v_abs, v_int, v_listL, v_listT, v_tupleL, v_tupleT, v_max2, v_min2, v_isa, Option.bind_some, List.set_cons_zero, List.set_cons_succ, List.length_cons, List.length_nil, if_true, if_false, reduceIte, Bool.false_eq_true, Bool.true_eq_false, decide_true, decide_false, isOwn, wp_ok, wp_exc, wp_bind, wp_o, wp_ite, wo_ite, wo_nx, wo_rt, wo_bk, wo_ct, wo_exc, wo_cons, wp_test1, tst_mk, v_eqI, v_neI, decide_eq_true_eq, Bool.not_eq_true', decide_eq_false_iff_not, Nat.reduceAdd, Nat.reduceLT, Nat.reduceLeDiff, Nat.zero_add, and_true, true_and, $ls,*])
/-! ### falling rows: the mathematics -/
theorem inF_shift : ∀ (rs : List (Int × Int)) (e b n : Int), inF rs e b n = inF rs e 0 (n - b)
  | [], e, b, n => by
    unfold inF
    by_cases c : e = 0
    · rw [if_pos c, if_pos c]; congr 1; apply propext; omega
    · rw [if_neg c, if_neg c, Int.sub_zero]
  | (s, t) :: r, e, b, n => by
    unfold inF
    by_cases c : n ≤ b + s * t
    · rw [if_pos c, if_pos (by omega), Int.sub_zero]
    · rw [if_neg c, if_neg (by omega), inF_shift r e (b + s * t), inF_shift r e (0 + s * t)]
      congr 1; omega
/-- runs as they are told -/
def PosR (rs : List (Int × Int)) : Prop := ∀ p ∈ rs, 0 < p.1 ∧ 0 < p.2
theorem PosR.tl {p : Int × Int} {rs : List (Int × Int)} (h : PosR (p :: rs)) : PosR rs := fun q hq => h q (List.mem_cons_of_mem _ hq)
theorem PosR.hd {p : Int × Int} {rs : List (Int × Int)} (h : PosR (p :: rs)) : 0 < p.1 ∧ 0 < p.2 := h p (List.mem_cons_self ..)
/-- the set -/
def Has (rs : List (Int × Int)) (e n : Int) : Prop := 0 ≤ n ∧ inF rs e 0 n = true
theorem has_nil {e n : Int} (he : 0 ≤ e) : Has [] e n ↔ 0 ≤ n ∧ ∃ k, n = e * k := by
  unfold Has inF
  by_cases c : e = 0
  · rw [if_pos c]
    subst c
    simp
  · rw [if_neg c, Int.sub_zero]
    simp only [decide_eq_true_eq]
    constructor
    · rintro ⟨a, b⟩
      exact ⟨a, n / e, by have := Int.mul_ediv_add_emod n e; omega⟩
    · rintro ⟨a, k, rfl⟩
      exact ⟨a, Int.mul_emod_right ..⟩
theorem has_cons {s t e n : Int} {rs : List (Int × Int)} (hs : 0 < s) (ht : 0 < t) : Has ((s, t) :: rs) e n ↔ (∃ k, 0 ≤ k ∧ k ≤ t ∧ n = s * k) ∨ (∃ x, Has rs e x ∧ 0 < x ∧ n = s * t + x) := by
  unfold Has
  rw [inF]
  have hst : 0 < s * t := Int.mul_pos hs ht
  by_cases c : n ≤ 0 + s * t
  · rw [if_pos c, Int.sub_zero]
    simp only [decide_eq_true_eq]
    constructor
    · rintro ⟨a, b⟩
      refine .inl ⟨n / s, Int.ediv_nonneg a (by omega), ?_, ?_⟩
      · refine Int.le_of_lt_add_one (Int.ediv_lt_of_lt_mul hs ?_)
        rw [Int.add_mul, Int.mul_comm t s]; omega
      · have := Int.mul_ediv_add_emod n s; omega
    · rintro (⟨k, h1, h2, rfl⟩ | ⟨x, h1, h2, rfl⟩)
      · exact ⟨Int.mul_nonneg (by omega) h1, Int.mul_emod_right ..⟩
      · omega
  · rw [if_neg c, inF_shift, Int.zero_add]
    constructor
    · rintro ⟨a, b⟩
      exact .inr ⟨n - s * t, ⟨by omega, b⟩, by omega, by omega⟩
    · rintro (⟨k, h1, h2, rfl⟩ | ⟨x, ⟨h0, h1⟩, h2, rfl⟩)
      · have : s * k ≤ s * t := Int.mul_le_mul_of_nonneg_left h2 (by omega)
        omega
      · refine ⟨by omega, ?_⟩
        rw [show s * t + x - s * t = x by omega]
        exact h1
theorem has_zero : ∀ {rs : List (Int × Int)} {e : Int}, PosR rs → 0 ≤ e → Has rs e 0
  | [], e, _, he => (has_nil he).mpr ⟨Int.le_refl 0, 0, by omega⟩
  | (s, t) :: rs, e, hp, he => (has_cons hp.hd.1 hp.hd.2).mpr (.inl ⟨0, Int.le_refl 0, Int.le_of_lt hp.hd.2, by omega⟩)
/-- a falling row -/
structure Falls (rs : List (Int × Int)) (e : Int) : Prop where
  pos : PosR rs
  end0 : 0 ≤ e
  endp : rs ≠ [] → 0 < e
  fall : fallB rs e = true
theorem Falls.step {s t e : Int} {rs : List (Int × Int)} (h : Falls ((s, t) :: rs) e) : hdR rs e < s ∧ Has rs e s ∧ Falls rs e := by
  have f := h.fall
  simp only [fallB, Bool.and_eq_true, decide_eq_true_eq] at f
  exact ⟨f.1.1, ⟨by have := h.pos.hd.1; dsimp only at this; omega, f.1.2⟩, h.pos.tl, h.end0, fun _ => h.endp (by simp), f.2⟩
/-- closed -/
theorem Falls.closed : ∀ {rs : List (Int × Int)} {e x y z : Int}, Falls rs e → Has rs e x → Has rs e y → Has rs e z → z ≤ x → z ≤ y → Has rs e (x + y - z)
  | [], e, x, y, z, h, hx, hy, hz, l1, l2 => by
    rw [has_nil h.end0] at hx hy hz ⊢
    obtain ⟨_, i, rfl⟩ := hx
    obtain ⟨_, j, rfl⟩ := hy
    obtain ⟨_, k, rfl⟩ := hz
    exact ⟨by omega, i + j - k, by rw [Int.mul_sub, Int.mul_add]⟩
  | (s, t) :: rs, e, x, y, z, h, hx, hy, hz, l1, l2 => by
    obtain ⟨hd, hs, hf⟩ := h.step
    have sp := h.pos.hd.1
    have tp := h.pos.hd.2
    dsimp only at sp tp
    have zr : Has rs e 0 := has_zero h.pos.tl h.end0
    have add : ∀ {a b : Int}, Has rs e a → Has rs e b → Has rs e (a + b) := fun {a b} ha hb => by
      have := hf.closed ha hb zr ha.1 hb.1
      rwa [Int.sub_zero] at this
    have muls : ∀ (k : Nat), Has rs e (s * k) := fun k => by
      induction k with
      | zero => simpa using zr
      | succ k ih =>
        have := add ih hs
        rwa [show s * (k : Int) + s = s * ((k + 1 : Nat) : Int) by rw [Int.natCast_add, Int.mul_add]; simp] at this
    have mulz : ∀ {k : Int}, 0 ≤ k → Has rs e (s * k) := fun {k} hk => by
      have := muls k.toNat
      rwa [Int.toNat_of_nonneg hk] at this
    -- in or behind
    have behind : ∀ {n x' : Int}, Has rs e x' → n = s * t + x' → Has ((s, t) :: rs) e n := fun {n x'} hx' en => by
      rw [has_cons sp tp]
      by_cases c : x' = 0
      · exact .inl ⟨t, by omega, Int.le_refl _, by rw [en, c, Int.add_zero]⟩
      · exact .inr ⟨x', hx', by have := hx'.1; omega, en⟩
    have kind : ∀ {n : Int}, Has ((s, t) :: rs) e n → (∃ k, 0 ≤ k ∧ k ≤ t ∧ n = s * k) ∨ (∃ x', Has rs e x' ∧ 0 < x' ∧ n = s * t + x') := fun hn => (has_cons sp tp).mp hn
    rcases kind hz with ⟨k, k1, k2, rfl⟩ | ⟨z', hz', z0, rfl⟩
    · rcases kind hx with ⟨i, i1, i2, rfl⟩ | ⟨x', hx', x0, rfl⟩
      · have ki : k ≤ i := Int.le_of_mul_le_mul_left l1 sp
        rcases kind hy with ⟨j, j1, j2, rfl⟩ | ⟨y', hy', y0, rfl⟩
        · have kj : k ≤ j := Int.le_of_mul_le_mul_left l2 sp
          by_cases c : i + j - k ≤ t
          · exact (has_cons sp tp).mpr (.inl ⟨i + j - k, by omega, c, by rw [Int.mul_sub, Int.mul_add]⟩)
          · refine behind (mulz (k := i + j - k - t) (by omega)) ?_
            rw [Int.mul_sub, Int.mul_sub, Int.mul_add]; omega
        · refine behind (add (mulz (k := i - k) (by omega)) hy') ?_
          rw [Int.mul_sub]; omega
      · rcases kind hy with ⟨j, j1, j2, rfl⟩ | ⟨y', hy', y0, rfl⟩
        · have kj : k ≤ j := Int.le_of_mul_le_mul_left l2 sp
          refine behind (add (mulz (k := j - k) (by omega)) hx') ?_
          rw [Int.mul_sub]; omega
        · refine behind (add (add (mulz (k := t - k) (by omega)) hx') hy') ?_
          rw [Int.mul_sub]; omega
    · have big : ∀ {n : Int}, Has ((s, t) :: rs) e n → s * t + z' ≤ n → ∃ x', Has rs e x' ∧ z' ≤ x' ∧ n = s * t + x' := fun {n} hn hl => by
        rcases kind hn with ⟨k, k1, k2, rfl⟩ | ⟨x', hx', x0, rfl⟩
        · have : s * k ≤ s * t := Int.mul_le_mul_of_nonneg_left k2 (by omega)
          omega
        · exact ⟨x', hx', by omega, rfl⟩
      obtain ⟨x', a1, a2, rfl⟩ := big hx l1
      obtain ⟨y', b1, b2, rfl⟩ := big hy l2
      exact behind (hf.closed a1 b1 hz' a2 b2) (by omega)
/-- the first step is the least number behind 0 -/
theorem Falls.least : ∀ {rs : List (Int × Int)} {e x : Int}, Falls rs e → Has rs e x → 0 < x → hdR rs e ≤ x
  | [], e, x, h, hx, hp => by
    obtain ⟨_, k, rfl⟩ := (has_nil h.end0).mp hx
    show e ≤ e * k
    have h0 := h.end0
    have : 0 < k := by
      by_cases c : 0 < k
      · exact c
      · have : e * k ≤ e * 0 := Int.mul_le_mul_of_nonneg_left (by omega) h0
        omega
    have := Int.mul_le_mul_of_nonneg_left (show 1 ≤ k by omega) h0
    omega
  | (s, t) :: rs, e, x, h, hx, hp => by
    have sp := h.pos.hd.1
    have tp := h.pos.hd.2
    dsimp only at sp tp
    show s ≤ x
    rcases (has_cons sp tp).mp hx with ⟨k, k1, k2, rfl⟩ | ⟨x', hx', x0, rfl⟩
    · have : 0 < k := by
        by_cases c : 0 < k
        · exact c
        · have : k = 0 := by omega
          subst this; omega
      have := Int.mul_le_mul_of_nonneg_left (show 1 ≤ k by omega) (Int.le_of_lt sp)
      omega
    · have := Int.mul_le_mul_of_nonneg_left (show 1 ≤ t by omega) (Int.le_of_lt sp)
      omega
/-- few runs -/
theorem Falls.few : ∀ (k : Nat) {rs : List (Int × Int)} {e : Int}, Falls rs e → hdR rs e < 2 ^ k → rs.length ≤ 2 * k
  | _, [], _, _, _ => Nat.zero_le _
  | 0, (s, t) :: rs, e, h, hl => by
    have sp := h.pos.hd.1
    dsimp only at sp
    have : s < 1 := hl
    omega
  | k + 1, [(s, t)], e, h, hl => by simp; omega
  | k + 1, (s, t) :: (s', t') :: rs, e, h, hl => by
    obtain ⟨h1, h2, h3⟩ := h.step
    obtain ⟨g1, g2, g3⟩ := h3.step
    have sp := h3.pos.hd.1
    have tp := h3.pos.hd.2
    dsimp only at sp tp
    have h1' : s' < s := h1
    have hl' : s < 2 ^ (k + 1) := hl
    have half : 2 * hdR rs e ≤ s := by
      rcases (has_cons sp tp).mp h2 with ⟨i, i1, i2, rfl⟩ | ⟨x, hx, x0, rfl⟩
      · have : 2 ≤ i := by
          by_cases c : 2 ≤ i
          · exact c
          · have := Int.mul_le_mul_of_nonneg_left (show i ≤ 1 by omega) (Int.le_of_lt sp)
            omega
        have := Int.mul_le_mul_of_nonneg_left this (Int.le_of_lt sp)
        omega
      · have := g3.least hx x0
        have := Int.mul_le_mul_of_nonneg_left (show 1 ≤ t' by omega) (Int.le_of_lt sp)
        omega
    have := g3.few k (by rw [Int.pow_succ] at hl'; omega)
    simp only [List.length_cons]
    omega
/-! ### Euclid's way -/
/-- strictly ascending, from 1 on -/
def Asc (L : List Int) : Prop := L.Pairwise (· < ·) ∧ ∀ x ∈ L, 0 < x
theorem mem_insertU {x y : Int} : ∀ {L : List Int}, y ∈ insertU x L ↔ y = x ∨ y ∈ L
  | [] => by simp [insertU]
  | z :: L => by
    unfold insertU
    split
    · simp
    · split
      · rename_i h; subst h; simp
      · rw [List.mem_cons, mem_insertU, List.mem_cons]
        constructor
        · rintro (h | h | h)
          · exact .inr (.inl h)
          · exact .inl h
          · exact .inr (.inr h)
        · rintro (h | h | h)
          · exact .inr (.inl h)
          · exact .inl h
          · exact .inr (.inr h)
theorem mem_sortU {y : Int} : ∀ {L : List Int}, y ∈ sortU L ↔ y ∈ L
  | [] => by simp [sortU]
  | x :: L => by
    have ih := mem_sortU (y := y) (L := L)
    rw [show sortU (x :: L) = insertU x (sortU L) from rfl, mem_insertU, ih, List.mem_cons]
theorem insertU_asc {x : Int} : ∀ {L : List Int}, L.Pairwise (· < ·) → (insertU x L).Pairwise (· < ·)
  | [], _ => by simp [insertU]
  | z :: L, h => by
    obtain ⟨h1, h2⟩ := List.pairwise_cons.mp h
    unfold insertU
    split
    · rename_i c
      refine List.pairwise_cons.mpr ⟨fun y hy => ?_, h⟩
      rcases List.mem_cons.mp hy with rfl | hy
      · exact c
      · have := h1 y hy; omega
    · split
      · exact h
      · refine List.pairwise_cons.mpr ⟨fun y hy => ?_, insertU_asc h2⟩
        rcases mem_insertU.mp hy with rfl | hy
        · omega
        · exact h1 y hy
theorem sortU_asc : ∀ (L : List Int), (sortU L).Pairwise (· < ·)
  | [] => List.Pairwise.nil
  | x :: L => insertU_asc (sortU_asc L)
theorem insertU_len {x : Int} : ∀ {L : List Int}, (insertU x L).length ≤ L.length + 1
  | [] => by simp [insertU]
  | z :: L => by
    unfold insertU
    split
    · simp
    · split
      · simp
      · simp only [List.length_cons]
        have := insertU_len (x := x) (L := L)
        omega
theorem sortU_len : ∀ (L : List Int), (sortU L).length ≤ L.length
  | [] => Nat.le_refl 0
  | x :: L => by
    have h1 := sortU_len L
    have h2 := insertU_len (x := x) (L := sortU L)
    show (insertU x (sortU L)).length ≤ L.length + 1
    omega
theorem leastI_mem : ∀ (m : Int) (L : List Int), least m L ∈ m :: L
  | m, [] => by simp [least]
  | m, x :: L => by
    unfold least
    have := leastI_mem (if x < m then x else m) L
    split at this
    · rename_i c; rw [if_pos c]; exact List.mem_cons_of_mem _ this
    · rename_i c; rw [if_neg c]
      rcases List.mem_cons.mp this with h | h
      · rw [h]; simp
      · exact List.mem_cons_of_mem _ (List.mem_cons_of_mem _ h)
theorem leastI_le : ∀ (m : Int) (L : List Int) (y : Int), y ∈ m :: L → least m L ≤ y
  | m, [], y, h => by simp at h; subst h; exact Int.le_refl _
  | m, x :: L, y, h => by
    unfold least
    have ih := leastI_le (if x < m then x else m) L
    rcases List.mem_cons.mp h with rfl | h
    · refine Int.le_trans (ih _ (List.mem_cons_self ..)) ?_
      split <;> omega
    rcases List.mem_cons.mp h with rfl | h
    · refine Int.le_trans (ih _ (List.mem_cons_self ..)) ?_
      split <;> omega
    · exact ih y (List.mem_cons_of_mem _ h)
/-- how often the first count can be taken from those that it doesn't divide -/
def turnsE (s : Int) (L : List Int) : List Int := (L.filter fun x => decide (0 < x % s)).map (· / s)
def lessE (s t : Int) (L : List Int) : List Int := sortU ((L.filter fun x => decide (s * t < x)).map (· - s * t) ++ [s])
def eucF : Nat → List Int → List (Int × Int) × Int
  | 0, _ => ([], 0)
  | _ + 1, [] => ([], 0)
  | n + 1, s :: L => match turnsE s (s :: L) with
    | [] => ([], s)
    | t :: ts => ((s, least t ts) :: (eucF n (lessE s (least t ts) (s :: L))).1, (eucF n (lessE s (least t ts) (s :: L))).2)
/-- the row of a set of counts -/
def eucR (L : List Int) : List (Int × Int) × Int := eucF (match L with | [] => 1 | s :: _ => s.toNat + 1) L
theorem turnsE_mem {s q : Int} {L : List Int} : q ∈ turnsE s L ↔ ∃ x ∈ L, 0 < x % s ∧ q = x / s := by
  unfold turnsE
  rw [List.mem_map]
  constructor
  · rintro ⟨x, h, rfl⟩
    rw [List.mem_filter, decide_eq_true_eq] at h
    exact ⟨x, h.1, h.2, rfl⟩
  · rintro ⟨x, h, h2, rfl⟩
    exact ⟨x, by rw [List.mem_filter, decide_eq_true_eq]; exact ⟨h, h2⟩, rfl⟩
theorem lessE_mem {s t y : Int} {L : List Int} : y ∈ lessE s t L ↔ y = s ∨ ∃ x ∈ L, s * t < x ∧ y = x - s * t := by
  unfold lessE
  rw [mem_sortU, List.mem_append, List.mem_map, List.mem_singleton]
  constructor
  · rintro (⟨x, h, rfl⟩ | h)
    · rw [List.mem_filter, decide_eq_true_eq] at h
      exact .inr ⟨x, h.1, h.2, rfl⟩
    · exact .inl h
  · rintro (h | ⟨x, h, h2, rfl⟩)
    · exact .inr h
    · exact .inl ⟨x, by rw [List.mem_filter, decide_eq_true_eq]; exact ⟨h, h2⟩, rfl⟩
/-- one step of it: what is told of the step -/
structure OneE (s t : Int) (L L' : List Int) : Prop where
  t1 : 0 < t
  lt : ∀ x ∈ L, x ≤ s * t → x % s = 0
  asc : Asc L'
  mem : ∀ y, y ∈ L' ↔ y = s ∨ ∃ x ∈ L, s * t < x ∧ y = x - s * t
  hd : ∃ y ∈ L', y < s
  big : ∃ x ∈ L, s * t ≤ x
  len : L'.length ≤ L.length
theorem oneE {s q : Int} {L qs : List Int} (h : Asc (s :: L)) (e : turnsE s (s :: L) = q :: qs) : OneE s (least q qs) (s :: L) (lessE s (least q qs) (s :: L)) := by
  have sp : 0 < s := h.2 s (List.mem_cons_self ..)
  have lm := leastI_mem q qs
  rw [← e, turnsE_mem] at lm
  have ll := leastI_le q qs
  rw [← e] at ll
  generalize least q qs = t at *
  obtain ⟨x, hx, hr, rfl⟩ := lm
  have hxs : s ≤ x := by
    rcases List.mem_cons.mp hx with rfl | hx
    · exact Int.le_refl _
    · exact Int.le_of_lt ((List.pairwise_cons.mp h.1).1 x hx)
  have t1 : 0 < x / s := by
    have := Int.mul_ediv_add_emod x s
    have h2 := Int.emod_lt_of_pos x sp
    by_cases c : 0 < x / s
    · exact c
    · have := Int.mul_le_mul_of_nonneg_left (show x / s ≤ 0 by omega) (Int.le_of_lt sp)
      omega
  have hst : s ≤ s * (x / s) := by
    have := Int.mul_le_mul_of_nonneg_left (show 1 ≤ x / s by omega) (Int.le_of_lt sp)
    omega
  have hxd := Int.mul_ediv_add_emod x s
  refine ⟨t1, fun y hy hl => ?_, ⟨sortU_asc _, fun y hy => ?_⟩, fun y => lessE_mem, ⟨x - s * (x / s), ?_, ?_⟩, ⟨x, hx, by omega⟩, ?_⟩
  · have h0 := Int.emod_nonneg y (show s ≠ 0 by omega)
    by_cases c : y % s = 0
    · exact c
    · have := ll (y / s) (turnsE_mem.mpr ⟨y, hy, by omega, rfl⟩)
      have := Int.mul_le_mul_of_nonneg_left this (Int.le_of_lt sp)
      have := Int.mul_ediv_add_emod y s
      omega
  · rcases lessE_mem.mp hy with rfl | ⟨z, hz, h1, rfl⟩
    · exact sp
    · omega
  · exact lessE_mem.mpr (.inr ⟨x, hx, by omega, rfl⟩)
  · have := Int.emod_lt_of_pos x sp
    omega
  · refine Nat.le_trans (sortU_len _) ?_
    rw [List.length_append, List.length_map, List.length_singleton, List.filter_cons_of_neg (by simp; omega)]
    have := List.length_filter_le (fun x_1 => decide (s * (x / s) < x_1)) L
    simp only [List.length_cons]
    omega
theorem OneE.cons {s t : Int} {L L' : List Int} (o : OneE s t (s :: L) L') : ∃ s' M, L' = s' :: M ∧ s' < s ∧ 0 < s' := by
  obtain ⟨y, hy, hl⟩ := o.hd
  cases hL : L' with
  | nil => rw [hL] at hy; cases hy
  | cons s' M =>
    refine ⟨s', M, rfl, ?_, o.asc.2 s' (by rw [hL]; exact List.mem_cons_self ..)⟩
    have a := o.asc.1
    rw [hL] at a hy
    rcases List.mem_cons.mp hy with rfl | hy
    · exact hl
    · have := (List.pairwise_cons.mp a).1 y hy
      omega
theorem eucF_fuel : ∀ (n m : Nat) (s : Int) (L : List Int), Asc (s :: L) → s.toNat < n → s.toNat < m → eucF n (s :: L) = eucF m (s :: L)
  | 0, _, _, _, _, h, _ => by omega
  | _ + 1, 0, _, _, _, _, h => by omega
  | n + 1, m + 1, s, L, h, h1, h2 => by
    unfold eucF
    cases e : turnsE s (s :: L) with
    | nil => rfl
    | cons q qs =>
      dsimp only
      have o := oneE h e
      obtain ⟨s', M, e', l1, l2⟩ := o.cons
      have a := o.asc
      rw [e'] at a ⊢
      rw [eucF_fuel n m s' M a (by omega) (by omega)]
theorem eucR_stop {s : Int} {L : List Int} (e : turnsE s (s :: L) = []) : eucR (s :: L) = ([], s) := by
  unfold eucR eucF
  simp only [e]
theorem eucR_step {s q : Int} {L qs : List Int} (h : Asc (s :: L)) (e : turnsE s (s :: L) = q :: qs) : eucR (s :: L) = ((s, least q qs) :: (eucR (lessE s (least q qs) (s :: L))).1, (eucR (lessE s (least q qs) (s :: L))).2) := by
  have o := oneE h e
  obtain ⟨s', M, e', l1, l2⟩ := o.cons
  have a := o.asc
  conv => lhs; unfold eucR eucF; simp only [e]
  rw [e'] at a ⊢
  unfold eucR
  dsimp only
  rw [eucF_fuel s.toNat (s'.toNat + 1) s' M a (by omega) (by omega)]
/-- what Euclid's way leads to -/
structure GoodE (L : List Int) (p : List (Int × Int) × Int) : Prop where
  falls : Falls p.1 p.2
  endp : L ≠ [] → 0 < p.2
  hd : ∀ s M, L = s :: M → hdR p.1 p.2 = s
  all : ∀ x ∈ L, Has p.1 p.2 x
  le : ∀ B, (∀ x ∈ L, x ≤ B) → (L ≠ [] → p.2 ≤ B) ∧ ∀ q ∈ p.1, q.1 * q.2 ≤ B
theorem goodE : ∀ (n : Nat) (s : Int) (L : List Int), Asc (s :: L) → s.toNat < n → GoodE (s :: L) (eucR (s :: L))
  | 0, _, _, _, h => by omega
  | n + 1, s, L, h, hn => by
    have sp : 0 < s := h.2 s (List.mem_cons_self ..)
    cases e : turnsE s (s :: L) with
    | nil =>
      rw [eucR_stop e]
      refine ⟨⟨fun p hp => (by cases hp), (by dsimp only; omega), fun h => (h rfl).elim, rfl⟩, fun _ => sp, fun s' M e' => by cases e'; rfl, fun x hx => ?_, fun B hB => ⟨fun _ => hB s (List.mem_cons_self ..), fun q hq => by cases hq⟩⟩
      rw [has_nil (by dsimp only; omega)]
      have h0 := Int.emod_nonneg x (show s ≠ 0 by omega)
      have hz : x % s = 0 := by
        by_cases c : x % s = 0
        · exact c
        · have : x / s ∈ turnsE s (s :: L) := turnsE_mem.mpr ⟨x, hx, by omega, rfl⟩
          rw [e] at this; cases this
      refine ⟨Int.le_of_lt (h.2 x hx), x / s, ?_⟩
      have := Int.mul_ediv_add_emod x s
      dsimp only
      omega
    | cons q qs =>
      rw [eucR_step h e]
      have o := oneE h e
      generalize least q qs = t at *
      generalize lessE s t (s :: L) = L' at *
      obtain ⟨s', M, rfl, l1, l2⟩ := o.cons
      have g := goodE n s' M o.asc (by omega)
      generalize eucR (s' :: M) = p at *
      obtain ⟨rs, e'⟩ := p
      have hh := g.hd s' M rfl
      dsimp only at hh
      have tp := o.t1
      have hs : Has rs e' s := g.all s ((o.mem s).mpr (.inl rfl))
      have ep : 0 < e' := g.endp (by simp)
      have F : Falls ((s, t) :: rs) e' := by
        refine ⟨fun p hp => ?_, g.falls.end0, fun _ => ep, ?_⟩
        · rcases List.mem_cons.mp hp with rfl | hp
          · exact ⟨sp, tp⟩
          · exact g.falls.pos p hp
        · have := g.falls.fall
          dsimp only at this
          rw [fallB, hh, hs.2, this, decide_eq_true l1]
          rfl
      refine ⟨F, fun _ => ep, fun s'' M' e'' => by cases e''; rfl, fun x hx => ?_, fun B hB => ?_⟩
      · rw [has_cons sp tp]
        by_cases c : x ≤ s * t
        · have hz := o.lt x hx c
          refine .inl ⟨x / s, Int.ediv_nonneg (Int.le_of_lt (h.2 x hx)) (by omega), ?_, ?_⟩
          · refine Int.le_of_lt_add_one (Int.ediv_lt_of_lt_mul sp ?_)
            rw [Int.add_mul, Int.mul_comm t s]; omega
          · have := Int.mul_ediv_add_emod x s
            omega
        · exact .inr ⟨x - s * t, g.all _ ((o.mem _).mpr (.inr ⟨x, hx, by omega, rfl⟩)), by omega, by omega⟩
      · have hst : 0 < s * t := Int.mul_pos sp tp
        have hB' : ∀ x ∈ s' :: M, x ≤ B := fun x hx => by
          rcases (o.mem x).mp hx with rfl | ⟨z, hz, h1, rfl⟩
          · exact hB x (List.mem_cons_self ..)
          · have := hB z hz; omega
        obtain ⟨b1, b2⟩ := g.le B hB'
        refine ⟨fun _ => b1 (by simp), fun p hp => ?_⟩
        rcases List.mem_cons.mp hp with rfl | hp
        · obtain ⟨x, hx, h1⟩ := o.big
          have := hB x hx
          dsimp only; omega
        · exact b2 p hp
theorem goodE' {L : List Int} (h : Asc L) : GoodE L (eucR L) := by
  cases L with
  | nil => exact ⟨⟨fun p hp => (by cases hp), Int.le_refl 0, fun h => (h rfl).elim, rfl⟩, fun h => (h rfl).elim, fun _ _ h => (by cases h), fun x hx => (by cases hx), fun B _ => ⟨fun h => (h rfl).elim, fun q hq => by cases hq⟩⟩
  | cons s L => exact goodE (s.toNat + 1) s L h (by omega)
end Rx

/-! RxF4 -/
/-! RxF4: whether any value is a falling row, by the program. -/
set_option linter.all false
set_option Elab.async false
set_option maxRecDepth 100000
set_option maxHeartbeats 1000000
namespace Rx
local macro_rules
  | `(tactic| simp!) => `(tactic| simp only [slot_z, slot_1, slot_2, slot_3, slot_4, slot_5, slot_6, slot_7, slot_8, slot_9, slot_10, slot_11, slot_12, q_var, q_frz, q_cst, q_op, q_call, q_callK, q_tup, q_lst, q_ite, q_and, q_or, q_not, q_chain, q_pop, q_exAt, es_nil, es_cons, ks_nil, ks_cons, t_and, t_or, t_not, t_op, t_var, t_call, t_callK, t_chain, t_cst, c_yes, c_one, b_ok, b_exc, o_ok, o_exc, of_some, g_val, g_new, g_ref, gs_nil, gs_cons, k_val, k_new, tk_val, tk_new, tk_deal, gv_val, gv_new, gv_ref, m_val, m_new, p_nm, p_tp, p_tpp, putD_nil, putD_cons, putM_nil, putM_cons, put_def, free_def, ts_nil, ts_cons, t1_ok, t1_exc, tr_bl, tr_non, ss_nil, ss_cons, s_asg, s_par, s_aug, s_app, s_ext, s_pop, s_expr, s_doc, s_ret, s_retN, s_pass, s_brk, s_cnt, s_ite, s_raise, s_setix, s_ins, i_seq, i_rg1, i_rg2, i_enum, i_zip, i_rev, sq_lst, sq_tup, wl_vs, v_add, v_sub, v_neg, v_lt, v_le, v_gt, v_ge, v_isN, v_notN, v_isB, v_notB, v_rev, v_lenL, v_lenT, v_abs, v_int, v_listL, v_listT, v_tupleL, v_tupleT, v_max2, v_min2, v_isa, Option.bind_some, List.set_cons_zero, List.set_cons_succ, List.length_cons, List.length_nil, if_true, if_false, reduceIte, Bool.false_eq_true, decide_true, decide_false, isOwn])
  | `(tactic| simp! [$ls,*]) => `(tactic| simp only [slot_z, slot_1, slot_2, slot_3, slot_4, slot_5, slot_6, slot_7, slot_8, slot_9, slot_10, slot_11, slot_12, q_var, q_frz, q_cst, q_op, q_call, q_callK, q_tup, q_lst, q_ite, q_and, q_or, q_not, q_chain, q_pop, q_exAt, es_nil, es_cons, ks_nil, ks_cons, t_and, t_or, t_not, t_op, t_var, t_call, t_callK, t_chain, t_cst, c_yes, c_one, b_ok, b_exc, o_ok, o_exc, of_some, g_val, g_new, g_ref, gs_nil, gs_cons, k_val, k_new, tk_val, tk_new, tk_deal, gv_val, gv_new, gv_ref, m_val, m_new, p_nm, p_tp, p_tpp, putD_nil, putD_cons, putM_nil, putM_cons, put_def, free_def, ts_nil, ts_cons, t1_ok, t1_exc, tr_bl, tr_non, ss_nil, ss_cons, s_asg, s_par, s_aug, s_app, s_ext, s_pop, s_expr, s_doc, s_ret, s_retN, s_pass, s_brk, s_cnt, s_ite, s_raise, s_setix, s_ins, i_seq, i_rg1, i_rg2, i_enum, i_zip, i_rev, sq_lst, sq_tup, wl_vs, v_add, v_sub, v_neg, v_lt, v_le, v_gt, v_ge, v_isN, v_notN, v_isB, v_notB, v_rev, v_lenL, v_lenT, v_abs, v_int, v_listL, v_listT, v_tupleL, v_tupleT, v_max2, v_min2, v_isa, Option.bind_some, List.set_cons_zero, List.set_cons_succ, List.length_cons, List.length_nil, if_true, if_false, reduceIte, Bool.false_eq_true, decide_true, decide_false, isOwn, $ls,*])
local macro_rules
  | `(tactic| simp_arith!) => `(tactic| simp (config := { dsimp := false, implicitDefEqProofs := false }) only [↓wp_bind, ↓wp_o, ↓wo_cons, ↓wp_test1, ↓wp_ok, ↓w_op, ↓w_call, ↓w_callK, ↓w_tup, ↓w_lst, ↓w_ite, ↓w_es_nil, ↓w_es, ↓w_ks_nil, ↓w_ks, keptQ_val, keptQ_new, ↓w_and, ↓w_or, ↓w_not, ↓w_top, ↓w_tvar, ↓w_tcall, ↓w_tcallK, ↓w_teqR, ↓w_asg, ↓w_ret, ↓w_site, ↓w_expr, ↓w_par, ↓w_eqR, slot_z, slot_1, slot_2, slot_3, slot_4, slot_5, slot_6, slot_7, slot_8, slot_9, slot_10, slot_11, slot_12, q_var, q_frz, q_cst, q_op, q_call, q_callK, q_tup, q_lst, q_ite, q_and, q_or, q_not, q_chain, q_pop, q_exAt, es_nil, es_cons, ks_nil, ks_cons, t_and, t_or, t_not, t_op, t_var, t_call, t_callK, t_chain, t_cst, t_eqR, q_eqR, c_yes, c_one, b_ok, b_exc, o_ok, o_exc, of_some, g_val, g_new, g_ref, gs_nil, gs_cons, k_val, k_new, tk_val, tk_new, tk_deal, gv_val, gv_new, gv_ref, m_val, m_new, p_nm, p_tp, p_tpp, putD_nil, putD_cons, putM_nil, putM_cons, put_def, free_def, ts_nil, ts_cons, t1_ok, t1_exc, tr_bl, tr_non, ss_nil, s_asg, s_par, s_aug, s_app, s_ext, s_pop, s_expr, s_doc, s_ret, s_retN, s_pass, s_brk, s_cnt, s_ite, s_raise, s_setix, s_ins, i_seq, i_rg1, i_rg2, i_enum, i_zip, i_rev, sq_lst, sq_tup, wl_vs, v_add, v_sub, v_neg, v_lt, v_le, v_gt, v_ge, v_isN, v_notN, v_isB, v_notB, v_rev, v_lenL, v_lenT, v_abs, v_int, v_listL, v_listT, v_tupleL, v_tupleT, v_max2, v_min2, v_isa, Option.bind_some, List.set_cons_zero, List.set_cons_succ, List.length_cons, List.length_nil, if_true, if_false, reduceIte, Bool.false_eq_true, Bool.true_eq_false, decide_true, decide_false, isOwn, wp_ok, wp_exc, wp_bind, wp_o, wp_ite, wo_ite, wo_nx, wo_rt, wo_bk, wo_ct, wo_exc, wo_cons, wp_test1, tst_mk, v_eqI, v_neI, decide_eq_true_eq, Bool.not_eq_true', decide_eq_false_iff_not, Nat.reduceAdd, Nat.reduceLT, Nat.reduceLeDiff, Nat.zero_add, and_true, true_and])
  | `(tactic| simp_arith! [$ls,*]) => `(tactic| simp (config := { dsimp := false, implicitDefEqProofs := false }) only [↓wp_bind, ↓wp_o, ↓wo_cons, ↓wp_test1, ↓wp_ok, ↓w_op, ↓w_call, ↓w_callK, ↓w_tup, ↓w_lst, ↓w_ite, ↓w_es_nil, ↓w_es, ↓w_ks_nil, ↓w_ks, keptQ_val, keptQ_new, ↓w_and, ↓w_or, ↓w_not, ↓w_top, ↓w_tvar, ↓w_tcall, ↓w_tcallK, ↓w_teqR, ↓w_asg, ↓w_ret, ↓w_site, ↓w_expr, ↓w_par, ↓w_eqR, slot_z, slot_1, slot_2, slot_3, slot_4, slot_5, slot_6, slot_7, slot_8, slot_9, slot_10, slot_11, slot_12, q_var, q_frz, q_cst, q_op, q_call, q_callK, q_tup, q_lst, q_ite, q_and, q_or, q_not, q_chain, q_pop, q_exAt, es_nil, es_cons, ks_nil, ks_cons, t_and, t_or, t_not, t_op, t_var, t_call, t_callK, t_chain, t_cst, t_eqR, q_eqR, c_yes, c_one, b_ok, b_exc, o_ok, o_exc, of_some, g_val, g_new, g_ref, gs_nil, gs_cons, k_val, k_new, tk_val, tk_new, tk_deal, gv_val, gv_new, gv_ref, m_val, m_new, p_nm, p_tp, p_tpp, putD_nil, putD_cons, putM_nil, putM_cons, put_def, free_def, ts_nil, ts_cons, t1_ok, t1_exc, tr_bl, tr_non, ss_nil, s_asg, s_par, s_aug, s_app, s_ext, s_pop, s_expr, s_doc, s_ret, s_retN, s_pass, s_brk, s_cnt, s_ite, s_raise, s_setix, s_ins, i_seq, i_rg1, i_rg2, i_enum, i_zip, i_rev, sq_lst, sq_tup, wl_vs, v_add, v_sub, v_neg, v_lt, v_le, v_gt, v_ge, v_isN, v_notN, v_isB, v_notB, v_rev, v_lenL, v_lenT, v_abs, v_int, v_listL, v_listT, v_tupleL, v_tupleT, v_max2, v_min2, v_isa, Option.bind_some, List.set_cons_zero, List.set_cons_succ, List.length_cons, List.length_nil, if_true, if_false, reduceIte, Bool.false_eq_true, Bool.true_eq_false, decide_true, decide_false, isOwn, wp_ok, wp_exc, wp_bind, wp_o, wp_ite, wo_ite, wo_nx, wo_rt, wo_bk, wo_ct, wo_exc, wo_cons, wp_test1, tst_mk, v_eqI, v_neI, decide_eq_true_eq, Bool.not_eq_true', decide_eq_false_iff_not, Nat.reduceAdd, Nat.reduceLT, Nat.reduceLeDiff, Nat.zero_add, and_true, true_and, $ls,*])
theorem cutN (xs : List D) (k : Nat) : cut xs (some (k : Int)) none = xs.drop k := by
  unfold cut bound
  simp only
  rw [if_neg (by omega), Int.toNat_natCast, List.take_of_length_le (by rw [List.length_drop]; omega)]
  by_cases h : k ≤ xs.length
  · rw [Nat.min_eq_left h]
  · rw [Nat.min_eq_right (by omega), List.drop_length, List.drop_eq_nil_of_le (by omega)]
theorem enumL_mem {x : D} : ∀ {ds : List D} {k : Nat}, x ∈ enumL k ds → ∃ i d, ds[i]? = some d ∧ x = .tup [.int ((k + i : Nat) : Int), d]
  | [], k, h => by cases h
  | d :: ds, k, h => by
    rcases List.mem_cons.mp h with rfl | h
    · exact ⟨0, d, rfl, rfl⟩
    · obtain ⟨i, d', h1, rfl⟩ := enumL_mem h
      exact ⟨i + 1, d', h1, by rw [Nat.add_right_comm, Nat.add_assoc]⟩
theorem enumL_len : ∀ (ds : List D) (k : Nat), (enumL k ds).length = ds.length
  | [], _ => rfl
  | d :: ds, k => by simp only [enumL, List.length_cons, enumL_len ds]
def insB : List (Int × Int) → Int → Bool
  | [], _ => true
  | (s, _) :: r, e => inF r e 0 s && insB r e
theorem asc_rev : ∀ (l : List Int) (a : Int), ascB (l ++ [a]) = (ascB l && (match l.getLast? with | some b => decide (b < a) | none => true))
  | [], a => rfl
  | [b], a => by simp [ascB]
  | b :: c :: l, a => by
    have ih := asc_rev (c :: l) a
    simp only [List.cons_append, ascB] at ih ⊢
    rw [ih, List.getLast?_cons_cons, Bool.and_assoc]
theorem asc_fall : ∀ (rs : List (Int × Int)) (e : Int), (ascB (e :: rs.reverse.map (·.1)) && insB rs e) = fallB rs e
  | [], e => rfl
  | (s, t) :: rs, e => by
    have ih := asc_fall rs e
    rw [List.reverse_cons, List.map_append, ← List.cons_append]
    simp only [List.map_cons, List.map_nil, asc_rev, insB, fallB]
    rw [← ih]
    have : (e :: rs.reverse.map (·.1)).getLast? = some (hdR rs e) := by
      cases rs with
      | nil => rfl
      | cons p rs =>
        obtain ⟨s', t'⟩ := p
        rw [List.reverse_cons, List.map_append, ← List.cons_append, List.map_cons, List.map_nil, List.getLast?_concat]
        rfl
    rw [this]
    dsimp only
    cases ascB (e :: rs.reverse.map (·.1)) <;> cases decide (hdR rs e < s) <;> cases inF rs e 0 s <;> cases insB rs e <;> rfl
/-- a run and its place -/
def inAt (rs : List (Int × Int)) (e : Int) : D → Bool
  | .tup [.int k, .tup (.int s :: _)] => inF (rs.drop (k.toNat + 1)) e 0 s
  | _ => false
theorem ins_enum (all : List (Int × Int)) (e : Int) : ∀ (rs : List (Int × Int)) (k : Nat), all.drop k = rs → ((enumL k (rs.map runD)).map (inAt all e)).all id = insB rs e
  | [], k, _ => rfl
  | (s, t) :: rs, k, h => by
    have h2 : all.drop (k + 1) = rs := by rw [← List.drop_drop, h]; rfl
    simp only [List.map_cons, enumL, List.all_cons, id, insB]
    rw [ins_enum all e rs (k + 1) h2]
    show (inF (all.drop ((k : Int).toNat + 1)) e 0 s && insB rs e) = _
    rw [Int.toNat_natCast, h2]
theorem isFall_row {rs : List (Int × Int)} {e : Int} (hp : PosR rs) (he : 0 ≤ e) (hn : rs ≠ [] → 0 < e) : isFall (rowD rs e) = fallB rs e := by
  unfold isFall rowD
  dsimp only
  rw [runsOf_map hp, decide_eq_true he]
  dsimp only
  cases rs with
  | nil => simp
  | cons p rs => rw [decide_eq_true (hn (by simp))]; rfl
/-- what has the form is a row -/
theorem formB_row {d : D} (h : formB d = true) : ∃ rs e, d = rowD rs e ∧ PosR rs ∧ 0 ≤ e ∧ (rs ≠ [] → 0 < e) := by
  unfold formB at h
  split at h
  · rename_i ds e
    simp only [Bool.and_eq_true, Bool.or_eq_true, decide_eq_true_eq] at h
    obtain ⟨⟨h1, h2⟩, h3⟩ := h
    rw [runsOf_all] at h2
    obtain ⟨rs, hr⟩ := Option.isSome_iff_exists.mp h2
    obtain ⟨rfl, hp⟩ := runsOf_some hr
    refine ⟨rs, e, rfl, hp, h1, fun hn => ?_⟩
    rcases h3 with h3 | h3
    · exact h3
    · cases rs with
      | nil => exact (hn rfl).elim
      | cons p rs => simp at h3
  · cases h
theorem isFall_form {d : D} (h : formB d = false) : isFall d = false := by
  unfold formB at h
  unfold isFall
  split at h
  · rename_i ds e
    cases hr : runsOf ds with
    | none => simp
    | some rs =>
      have : ds.all isRun = true := by rw [runsOf_all, hr]; rfl
      rw [this] at h
      simp only [Bool.and_true] at h
      dsimp only
      rw [← Bool.and_assoc, h]; rfl
  · rfl
theorem isFall_iff {d : D} : isFall d = true ↔ ∃ rs e, d = rowD rs e ∧ Falls rs e := by
  constructor
  · intro h
    cases hf : formB d with
    | false => rw [isFall_form hf] at h; cases h
    | true =>
      obtain ⟨rs, e, rfl, h1, h2, h3⟩ := formB_row hf
      rw [isFall_row h1 h2 h3] at h
      exact ⟨rs, e, rfl, h1, h2, h3, h⟩
  · rintro ⟨rs, e, rfl, h⟩
    rw [isFall_row h.pos h.end0 h.endp]
    exact h.fall
theorem Mild.few' {rs : List (Int × Int)} {e : Int} (m : Mild (rowD rs e)) : rs.length ≤ 2000 := by
  have := m.few _ _ rfl
  rwa [List.length_map] at this
theorem Mild.ok {rs : List (Int × Int)} {e : Int} (m : Mild (rowD rs e)) (hp : PosR rs) : RunsOk rs := fun p h => ⟨(hp p h).1, m.mul _ _ _ rfl (runsOf_map hp) p h⟩
theorem RunsOk.drop {rs : List (Int × Int)} (h : RunsOk rs) (k : Nat) : RunsOk (rs.drop k) := fun p hp => h p (List.mem_of_mem_drop hp)
theorem p_tpR {env : Env} (is : List Nat) (rs : List (Int × Int)) (e : Int) : T.put (.tp is) (some (.val (rowD rs e))) env = putD is [.tup (rs.map runD), .int e] env := rfl
/-- what the defs below are asked for -/
abbrev TellsAt (r : Fs) (f : Nat) : Prop := ∀ {rs : List (Int × Int)} {e n : Int}, RunsOk rs → 0 ≤ e → r f [.val (.tup (rs.map runD)), .val (.int e), .val (.int n)] = .ok (.val (.bl (inF rs e 0 n))) [.val (.tup (rs.map runD)), .val (.int e), .val (.int n)]
section
variable {r : Fs}
theorem f_is_falling (h2 : ∀ {xs : List Int}, xs.length ≤ maxLen → r 2 [.val (.lst (xs.map .int))] = .ok (.val (.bl (ascB xs))) [.val (.lst (xs.map .int))])
    (h4 : ∀ {d}, Mild d → r 4 [.val d] = .ok (.val (.bl (formB d))) [.val d]) (h5 : TellsAt r 5) {d : D} (m : Mild d) : denF r 1 6 B_is_falling [.val d] = .ok (.val (.bl (isFall d))) [.val d] := by
  refine fn_is (ds := [d]) rfl ?_
  unfold B_is_falling
  simp only [List.map_cons, List.map_nil, List.cons_append, List.nil_append, List.replicate_succ, List.replicate_zero]
  cases hf : formB d with
  | false =>
    simp_arith! [call1 (h4 m), hf, Bool.not_false]
    rw [isFall_form hf]
  | true =>
    obtain ⟨rs, e, rfl, hp, he, hn⟩ := formB_row hf
    have hl := m.few'
    have ok := m.ok hp
    have hq1 := q_map (r := r) (t := .nm 4) (own := [4]) (it := .rev (.frz 1)) (e := .op .ix (.cons (.var 4) (.cons (.cst (.int 0)) .nil))) (env := [some (.val (rowD rs e)), some (.val (.tup (rs.map runD))), some (.val (.int e)), none, none, none]) (env1 := [some (.val (rowD rs e)), some (.val (.tup (rs.map runD))), some (.val (.int e)), none, none, none])
      (ds := (rs.map runD).reverse) (fun x => match x with | .tup (a :: _) => a | _ => .non) (fun x => [some (.val (rowD rs e)), some (.val (.tup (rs.map runD))), some (.val (.int e)), none, some (.val x), none]) (by simp!) rfl (by rw [List.length_reverse, List.length_map]; unfold maxLen; omega) (fun d _ => rfl) (fun x hx => by
        rw [← List.map_reverse] at hx
        obtain ⟨p, _, rfl⟩ := List.mem_map.mp hx
        exact ⟨.mv (.val (.int p.1)), by simp! [runD, ix0], rfl⟩) (fun d _ => rfl)
    have e1 : (rs.map runD).reverse.map (fun x => match x with | .tup (a :: _) => a | _ => .non) = (rs.reverse.map (·.1)).map D.int := by
      rw [← List.map_reverse, List.map_map, List.map_map]; rfl
    have l1 : 1 + (List.map D.int (List.map (fun x => x.fst) rs.reverse)).length ≤ maxLen := by rw [List.length_map, List.length_map, List.length_reverse]; unfold maxLen; omega
    have h2' := h2 (xs := e :: rs.reverse.map (·.1)) (by rw [List.length_cons, List.length_map, List.length_reverse]; unfold maxLen; omega)
    simp_arith! [call1 (h4 m), hf, Bool.not_true, p_tpR, hq1, back, wipe, e1, v_addL, if_pos l1, if_pos (show 1 ≤ maxLen by decide), List.getElem?_cons_succ, List.getElem?_cons_zero, Option.join_none, Option.join_some, List.cons_append, List.nil_append, ← List.map_cons, call1 h2']
    cases ha : ascB (e :: rs.reverse.map (·.1)) with
    | false =>
      simp_arith! [ha]
      rw [isFall_row hp he hn, ← asc_fall, ha]
      rfl
    | true =>
      have hq2 := q_map (r := r) (t := .tp [5, 4]) (own := [5, 4]) (it := .enum (.var 1)) (e := .call 5 (.cons (.op (.sl true false) (.cons (.var 1) (.cons (.op .add (.cons (.var 5) (.cons (.cst (.int 1)) .nil))) .nil))) (.cons (.frz 2) (.cons (.op .ix (.cons (.var 4) (.cons (.cst (.int 0)) .nil))) .nil)))) (env := [some (.val (rowD rs e)), some (.val (.tup (rs.map runD))), some (.val (.int e)), some (.val (.lst ((e :: rs.reverse.map (·.1)).map .int))), none, none]) (env1 := [some (.val (rowD rs e)), some (.val (.tup (rs.map runD))), some (.val (.int e)), some (.val (.lst ((e :: rs.reverse.map (·.1)).map .int))), none, none])
        (ds := enumL 0 (rs.map runD)) (fun x => .bl (inAt rs e x)) (fun x => match x with | .tup [a, b] => [some (.val (rowD rs e)), some (.val (.tup (rs.map runD))), some (.val (.int e)), some (.val (.lst ((e :: rs.reverse.map (·.1)).map .int))), some (.val b), some (.val a)] | _ => []) (by simp!) rfl (by rw [enumL_len, List.length_map]; unfold maxLen; omega) (fun d hd => by
          obtain ⟨i, x, _, rfl⟩ := enumL_mem hd
          rfl) (fun d hd => by
          obtain ⟨i, x, hx, rfl⟩ := enumL_mem hd
          rw [List.getElem?_map] at hx
          obtain ⟨⟨s, t⟩, hp', rfl⟩ := Option.map_eq_some_iff.mp hx
          refine ⟨.mv (.val (.bl (inAt rs e (.tup [.int ((0 + i : Nat) : Int), runD (s, t)])))), ?_, rfl⟩
          have e2 : ((0 + i : Nat) : Int) + 1 = ((i + 1 : Nat) : Int) := by omega
          have e3 : inAt rs e (.tup [.int ((0 + i : Nat) : Int), runD (s, t)]) = inF (rs.drop (i + 1)) e 0 s := by
            show inF (rs.drop (((0 + i : Nat) : Int).toNat + 1)) e 0 s = _
            rw [Int.toNat_natCast, Nat.zero_add]
          rw [e3]
          simp! [v_sl10T, e2, cutN, runD, ix0, ← List.map_drop, call3 (h5 (n := s) (ok.drop (i + 1)) he)]
          ) (fun d hd => by
          obtain ⟨i, x, _, rfl⟩ := enumL_mem hd
          rfl)
      simp_arith! [ha, hq2, v_all, bools_map, Option.map_some]
      rw [isFall_row hp he hn, ← asc_fall, ha, ins_enum rs e rs 0 rfl]
      exact ⟨rfl, Nat.succ_le_succ (Nat.zero_le _)⟩
theorem fn_ex {np n : Nat} {b : Ss} {ds : List D} {c : Nat} {v : D} (h2 : ds.length = np) (h : (denSs r b (ds.map (fun d => some (.val d)) ++ List.replicate (n - np) none)).wp ⟨fun _ => False, fun _ _ => False, fun _ => False, fun _ => False, fun c' d _ => c' = c ∧ d = v⟩) :
    denF r np n b (ds.map .val) = .exc c v := by
  have hl : (ds.map M.val).length = np := by rw [List.length_map]; exact h2
  have := fn_wp (r := r) (np := np) (n := n) (b := b) (ms := ds.map .val) (K := fun _ _ => False) (X := fun c' d => c' = c ∧ d = v) (by simp [lentOk]) hl (by
    rw [List.map_map, hl]
    exact wo_mono h (fun _ h => h.elim) (fun m e h => h.elim) (fun _ h => h) (fun _ h => h) fun _ _ _ h => h)
  cases e : denF r np n b (ds.map .val) with
  | ok m ms => rw [e] at this; exact this.elim
  | exc c' d => rw [e] at this; obtain ⟨rfl, rfl⟩ := this; rfl
  | stuck => rw [e] at this; exact this.elim
theorem f_checked_falling (h6 : ∀ {d}, Mild d → r 6 [.val d] = .ok (.val (.bl (isFall d))) [.val d]) {d v : D} (m : Mild d) (h : isFall d = true) : denF r 2 2 B_checked_falling [.val d, .val v] = .ok (.val d) [.val d, .val v] := by
  refine fn_is (ds := [d, v]) rfl ?_
  unfold B_checked_falling
  simp only [List.map_cons, List.map_nil, List.cons_append, List.nil_append, Nat.sub_self, List.replicate_zero]
  simp_arith! [call1 (h6 m), h, Bool.not_true, Nat.le_refl]
theorem x_checked_falling (h6 : ∀ {d}, Mild d → r 6 [.val d] = .ok (.val (.bl (isFall d))) [.val d]) {d v : D} (m : Mild d) (h : isFall d = false) : denF r 2 2 B_checked_falling [.val d, .val v] = .exc 4 v := by
  refine fn_ex (ds := [d, v]) rfl ?_
  unfold B_checked_falling
  simp only [List.map_cons, List.map_nil, List.cons_append, List.nil_append, Nat.sub_self, List.replicate_zero]
  simp_arith! [call1 (h6 m), h, Bool.not_false]
theorem f_has (h5 : TellsAt r 5) (h7 : ∀ {d v}, Mild d → isFall d = true → r 7 [.val d, .val v] = .ok (.val d) [.val d, .val v]) {rs : List (Int × Int)} {e n : Int} (m : Mild (rowD rs e)) (h : Falls rs e) :
    denF r 2 4 B_has [.val (rowD rs e), .val (.int n)] = .ok (.val (.bl (inF rs e 0 n))) [.val (rowD rs e), .val (.int n)] := by
  refine fn_is (ds := [rowD rs e, .int n]) rfl ?_
  unfold B_has
  simp only [List.map_cons, List.map_nil, List.cons_append, List.nil_append, List.replicate_succ, List.replicate_zero]
  simp_arith! [Es.app, call2 (h7 m (isFall_iff.mpr ⟨rs, e, rfl, h⟩)), p_tpR, call3 (h5 (n := n) (m.ok h.pos) h.end0)]
theorem x_has (h7 : ∀ {d v}, Mild d → isFall d = false → r 7 [.val d, .val v] = .exc 4 v) {d v : D} (m : Mild d) (h : isFall d = false) : denF r 2 4 B_has [.val d, .val v] = .exc 4 (.int 0) := by
  refine fn_ex (ds := [d, v]) rfl ?_
  unfold B_has
  simp only [List.map_cons, List.map_nil, List.cons_append, List.nil_append, List.replicate_succ, List.replicate_zero]
  simp_arith! [Es.app, call2x (h7 m h)]
/-! ### Euclid's way, in the law's words -/
theorem ints_int : ∀ l : List Int, ints? (l.map D.int) = some l
  | [] => rfl
  | a :: l => by simp only [List.map_cons, ints?, ints_int l, Option.map_some]
theorem flats_int (n : Nat) : ∀ l : List Int, D.flats n (l.map D.int) = true
  | [] => by cases n <;> rfl
  | a :: l => by
    have := flats_int n l
    cases n <;> simp_all [D.flats, D.flat]
theorem ne_nil (l : List Int) : evalOp .ne [.lst (l.map .int), .lst []] = some (.val (.bl (!l.isEmpty))) := by
  rw [v_ne]
  have : D.flat 60 (.lst (l.map .int)) = true := flats_int 59 l
  rw [this]
  cases l <;> rfl
theorem eq_nil (l : List Int) : evalOp .eq [.lst (l.map .int), .lst []] = some (.val (.bl l.isEmpty)) := by
  rw [v_eq]
  have : D.flat 60 (.lst (l.map .int)) = true := flats_int 59 l
  rw [this]
  cases l <;> rfl
theorem ixL0 (a : D) (xs : List D) : evalOp .ix [.lst (a :: xs), .int 0] = some (.val a) := by rw [v_ixL, place0 (by simp)]; rfl
theorem v_minlI {l : List Int} : evalOp .minl [.lst (l.map .int)] = match l with | n :: ns => some (.val (.int (least n ns))) | [] => none := by
  show (match ints? (l.map .int) with | some (n :: ns) => some (Z.val (.int (least n ns))) | _ => none) = _
  rw [ints_int]
  cases l <;> rfl
theorem v_sortsetI {l : List Int} (h : l.length < 64) : evalOp .sortset [.lst (l.map .int)] = some (.new ((sortU l).map .int)) := by
  show (match ints? (l.map .int) with | some ns => if ns.length < 64 then some (Z.new ((sortU ns).map .int)) else none | none => none) = _
  rw [ints_int]
  dsimp only
  rw [if_pos h]
end
end Rx

/-! RxF5 -/
/-! RxF5: Euclid's way, in the law's words. -/
set_option linter.all false
set_option Elab.async false
set_option maxRecDepth 100000
set_option maxHeartbeats 1000000
namespace Rx
local macro_rules
  | `(tactic| simp!) => `(tactic| simp only [slot_z, slot_1, slot_2, slot_3, slot_4, slot_5, slot_6, slot_7, slot_8, slot_9, slot_10, slot_11, slot_12, q_var, q_frz, q_cst, q_op, q_call, q_callK, q_tup, q_lst, q_ite, q_and, q_or, q_not, q_chain, q_pop, q_exAt, es_nil, es_cons, ks_nil, ks_cons, t_and, t_or, t_not, t_op, t_var, t_call, t_callK, t_chain, t_cst, c_yes, c_one, b_ok, b_exc, o_ok, o_exc, of_some, g_val, g_new, g_ref, gs_nil, gs_cons, k_val, k_new, tk_val, tk_new, tk_deal, gv_val, gv_new, gv_ref, m_val, m_new, p_nm, p_tp, p_tpp, putD_nil, putD_cons, putM_nil, putM_cons, put_def, free_def, ts_nil, ts_cons, t1_ok, t1_exc, tr_bl, tr_non, ss_nil, ss_cons, s_asg, s_par, s_aug, s_app, s_ext, s_pop, s_expr, s_doc, s_ret, s_retN, s_pass, s_brk, s_cnt, s_ite, s_raise, s_setix, s_ins, i_seq, i_rg1, i_rg2, i_enum, i_zip, i_rev, sq_lst, sq_tup, wl_vs, v_add, v_sub, v_neg, v_lt, v_le, v_gt, v_ge, v_isN, v_notN, v_isB, v_notB, v_rev, v_lenL, v_lenT, v_abs, v_int, v_listL, v_listT, v_tupleL, v_tupleT, v_max2, v_min2, v_isa, Option.bind_some, List.set_cons_zero, List.set_cons_succ, List.length_cons, List.length_nil, if_true, if_false, reduceIte, Bool.false_eq_true, decide_true, decide_false, isOwn])
  | `(tactic| simp! [$ls,*]) => `(tactic| simp only [slot_z, slot_1, slot_2, slot_3, slot_4, slot_5, slot_6, slot_7, slot_8, slot_9, slot_10, slot_11, slot_12, q_var, q_frz, q_cst, q_op, q_call, q_callK, q_tup, q_lst, q_ite, q_and, q_or, q_not, q_chain, q_pop, q_exAt, es_nil, es_cons, ks_nil, ks_cons, t_and, t_or, t_not, t_op, t_var, t_call, t_callK, t_chain, t_cst, c_yes, c_one, b_ok, b_exc, o_ok, o_exc, of_some, g_val, g_new, g_ref, gs_nil, gs_cons, k_val, k_new, tk_val, tk_new, tk_deal, gv_val, gv_new, gv_ref, m_val, m_new, p_nm, p_tp, p_tpp, putD_nil, putD_cons, putM_nil, putM_cons, put_def, free_def, ts_nil, ts_cons, t1_ok, t1_exc, tr_bl, tr_non, ss_nil, ss_cons, s_asg, s_par, s_aug, s_app, s_ext, s_pop, s_expr, s_doc, s_ret, s_retN, s_pass, s_brk, s_cnt, s_ite, s_raise, s_setix, s_ins, i_seq, i_rg1, i_rg2, i_enum, i_zip, i_rev, sq_lst, sq_tup, wl_vs, v_add, v_sub, v_neg, v_lt, v_le, v_gt, v_ge, v_isN, v_notN, v_isB, v_notB, v_rev, v_lenL, v_lenT, v_abs, v_int, v_listL, v_listT, v_tupleL, v_tupleT, v_max2, v_min2, v_isa, Option.bind_some, List.set_cons_zero, List.set_cons_succ, List.length_cons, List.length_nil, if_true, if_false, reduceIte, Bool.false_eq_true, decide_true, decide_false, isOwn, $ls,*])
local macro_rules
  | `(tactic| simp_arith!) => `(tactic| simp (config := { dsimp := false, implicitDefEqProofs := false }) only [↓wp_bind, ↓wp_o, ↓wo_cons, ↓wp_test1, ↓wp_ok, ↓w_op, ↓w_call, ↓w_callK, ↓w_tup, ↓w_lst, ↓w_ite, ↓w_es_nil, ↓w_es, ↓w_ks_nil, ↓w_ks, keptQ_val, keptQ_new, ↓w_and, ↓w_or, ↓w_not, ↓w_top, ↓w_tvar, ↓w_tcall, ↓w_tcallK, ↓w_teqR, ↓w_asg, ↓w_ret, ↓w_site, ↓w_expr, ↓w_par, ↓w_eqR, slot_z, slot_1, slot_2, slot_3, slot_4, slot_5, slot_6, slot_7, slot_8, slot_9, slot_10, slot_11, slot_12, q_var, q_frz, q_cst, q_op, q_call, q_callK, q_tup, q_lst, q_ite, q_and, q_or, q_not, q_chain, q_pop, q_exAt, es_nil, es_cons, ks_nil, ks_cons, t_and, t_or, t_not, t_op, t_var, t_call, t_callK, t_chain, t_cst, t_eqR, q_eqR, c_yes, c_one, b_ok, b_exc, o_ok, o_exc, of_some, g_val, g_new, g_ref, gs_nil, gs_cons, k_val, k_new, tk_val, tk_new, tk_deal, gv_val, gv_new, gv_ref, m_val, m_new, p_nm, p_tp, p_tpp, putD_nil, putD_cons, putM_nil, putM_cons, put_def, free_def, ts_nil, ts_cons, t1_ok, t1_exc, tr_bl, tr_non, ss_nil, s_asg, s_par, s_aug, s_app, s_ext, s_pop, s_expr, s_doc, s_ret, s_retN, s_pass, s_brk, s_cnt, s_ite, s_raise, s_setix, s_ins, i_seq, i_rg1, i_rg2, i_enum, i_zip, i_rev, sq_lst, sq_tup, wl_vs, v_add, v_sub, v_neg, v_lt, v_le, v_gt, v_ge, v_isN, v_notN, v_isB, v_notB, v_rev, v_lenL, v_lenT, v_abs, v_int, v_listL, v_listT, v_tupleL, v_tupleT, v_max2, v_min2, v_isa, Option.bind_some, List.set_cons_zero, List.set_cons_succ, List.length_cons, List.length_nil, if_true, if_false, reduceIte, Bool.false_eq_true, Bool.true_eq_false, decide_true, decide_false, isOwn, wp_ok, wp_exc, wp_bind, wp_o, wp_ite, wo_ite, wo_nx, wo_rt, wo_bk, wo_ct, wo_exc, wo_cons, wp_test1, tst_mk, v_eqI, v_neI, decide_eq_true_eq, Bool.not_eq_true', decide_eq_false_iff_not, Nat.reduceAdd, Nat.reduceLT, Nat.reduceLeDiff, Nat.zero_add, and_true, true_and])
  | `(tactic| simp_arith! [$ls,*]) => `(tactic| simp (config := { dsimp := false, implicitDefEqProofs := false }) only [↓wp_bind, ↓wp_o, ↓wo_cons, ↓wp_test1, ↓wp_ok, ↓w_op, ↓w_call, ↓w_callK, ↓w_tup, ↓w_lst, ↓w_ite, ↓w_es_nil, ↓w_es, ↓w_ks_nil, ↓w_ks, keptQ_val, keptQ_new, ↓w_and, ↓w_or, ↓w_not, ↓w_top, ↓w_tvar, ↓w_tcall, ↓w_tcallK, ↓w_teqR, ↓w_asg, ↓w_ret, ↓w_site, ↓w_expr, ↓w_par, ↓w_eqR, slot_z, slot_1, slot_2, slot_3, slot_4, slot_5, slot_6, slot_7, slot_8, slot_9, slot_10, slot_11, slot_12, q_var, q_frz, q_cst, q_op, q_call, q_callK, q_tup, q_lst, q_ite, q_and, q_or, q_not, q_chain, q_pop, q_exAt, es_nil, es_cons, ks_nil, ks_cons, t_and, t_or, t_not, t_op, t_var, t_call, t_callK, t_chain, t_cst, t_eqR, q_eqR, c_yes, c_one, b_ok, b_exc, o_ok, o_exc, of_some, g_val, g_new, g_ref, gs_nil, gs_cons, k_val, k_new, tk_val, tk_new, tk_deal, gv_val, gv_new, gv_ref, m_val, m_new, p_nm, p_tp, p_tpp, putD_nil, putD_cons, putM_nil, putM_cons, put_def, free_def, ts_nil, ts_cons, t1_ok, t1_exc, tr_bl, tr_non, ss_nil, s_asg, s_par, s_aug, s_app, s_ext, s_pop, s_expr, s_doc, s_ret, s_retN, s_pass, s_brk, s_cnt, s_ite, s_raise, s_setix, s_ins, i_seq, i_rg1, i_rg2, i_enum, i_zip, i_rev, sq_lst, sq_tup, wl_vs, v_add, v_sub, v_neg, v_lt, v_le, v_gt, v_ge, v_isN, v_notN, v_isB, v_notB, v_rev, v_lenL, v_lenT, v_abs, v_int, v_listL, v_listT, v_tupleL, v_tupleT, v_max2, v_min2, v_isa, Option.bind_some, List.set_cons_zero, List.set_cons_succ, List.length_cons, List.length_nil, if_true, if_false, reduceIte, Bool.false_eq_true, Bool.true_eq_false, decide_true, decide_false, isOwn, wp_ok, wp_exc, wp_bind, wp_o, wp_ite, wo_ite, wo_nx, wo_rt, wo_bk, wo_ct, wo_exc, wo_cons, wp_test1, tst_mk, v_eqI, v_neI, decide_eq_true_eq, Bool.not_eq_true', decide_eq_false_iff_not, Nat.reduceAdd, Nat.reduceLT, Nat.reduceLeDiff, Nat.zero_add, and_true, true_and, $ls,*])
def bigB : Int := 2 ^ 499
theorem big_log {x : Int} (h : 0 < x) (l : x ≤ bigB) : x.natAbs.log2 < 501 := by
  rw [Nat.log2_lt (by omega)]
  have : (x.natAbs : Int) ≤ ((2 ^ 499 : Nat) : Int) := by
    rw [Int.natAbs_of_nonneg (by omega)]
    exact l
  have := Int.ofNat_le.mp this
  exact Nat.lt_of_le_of_lt this (Nat.pow_lt_pow_right (by decide) (by decide))
/-- counts that Euclid's way is asked for -/
structure EucOk (L : List Int) : Prop where
  few : L.length < 60
  small : ∀ x ∈ L, x ≤ bigB
/-- the head of what is left -/
def headM (env : Env) : Nat := match slot 1 env with
  | some (.own _ (.int s :: _)) => s.toNat + 1
  | _ => 0
def posL (L : List Int) : List Int := sortU (L.filter fun x => decide (0 < x))
def eucD (L : List Int) : D := rowD (eucR (posL L)).1 (eucR (posL L)).2
theorem filt_map (p : Int → Bool) (pd : D → Bool) (g : Int → Int) (gd : D → D) (hp : ∀ x, pd (.int x) = p x) (hg : ∀ x, gd (.int x) = .int (g x)) : ∀ L : List Int, ((L.map D.int).filter pd).map gd = ((L.filter p).map g).map D.int
  | [] => rfl
  | x :: L => by
    have ih := filt_map p pd g gd hp hg L
    rw [List.map_cons, List.filter_cons, List.filter_cons, hp]
    cases p x
    · exact ih
    · simp only [if_true, List.map_cons, hg, ih]
theorem posL_asc (L : List Int) : Asc (posL L) := ⟨sortU_asc _, fun x hx => by
  have := (List.mem_filter.mp (mem_sortU.mp hx)).2
  simpa using this⟩
theorem posL_len (L : List Int) : (posL L).length ≤ L.length := Nat.le_trans (sortU_len _) (List.length_filter_le ..)
theorem posL_mem {L : List Int} {x : Int} : x ∈ posL L ↔ x ∈ L ∧ 0 < x := by
  unfold posL
  rw [mem_sortU, List.mem_filter, decide_eq_true_eq]
/-- what is left, while Euclid's way goes on -/
structure Left (L0 left : List Int) (rs : List (Int × Int)) : Prop where
  asc : Asc left
  few : left.length < 60
  small : ∀ x ∈ left, x ≤ bigB
  eq : eucR (posL L0) = (rs ++ (eucR left).1, (eucR left).2)
  ne : left = [] → rs = []
section
variable {r : Fs}
theorem s_wh (m : Env → Nat) (c : E) (b : Ss) {env : Env} : denS r (.wh m c b) env = whF (denT r c) (denSs r b) (m env) env := by first | (rw [denS]; done) | (rw [denS]; rfl)
theorem f_euclid {L : List Int} (ok : EucOk L) : denF r 1 7 B__law_euclid [.val (.lst (L.map .int))] = .ok (.val (eucD L)) [.val (.lst (L.map .int))] := by
  refine fn_is (ds := [.lst (L.map .int)]) rfl ?_
  unfold B__law_euclid
  simp only [List.map_cons, List.map_nil, List.cons_append, List.nil_append, List.replicate_succ, List.replicate_zero]
  have hq := q_fm (r := r) (t := .nm 6) (own := [6]) (it := .seq (.var 0)) (c := .one (.op .gt (.cons (.var 6) (.cons (.cst (.int 0)) .nil)))) (e := .frz 6) (env := [some (.val (.lst (L.map .int))), none, none, none, none, none, none]) (env1 := [some (.val (.lst (L.map .int))), none, none, none, none, none, none]) (ds := L.map .int)
    (fun x => match x with | .int i => decide (0 < i) | _ => false) (fun x => x) (fun x => [some (.val (.lst (L.map .int))), none, none, none, none, none, some (.val x)]) (by simp!) rfl (by rw [List.length_map]; have := ok.few; unfold maxLen; omega) (fun d _ => rfl) (fun d hd => by
      obtain ⟨i, _, rfl⟩ := List.mem_map.mp hd
      rfl) (fun d hd _ => ⟨_, rfl, rfl⟩) (fun d _ => rfl)
  rw [filt_map (fun x => decide (0 < x)) _ (fun x => x) _ (fun _ => rfl) (fun _ => rfl), List.map_id'] at hq
  have hl : (L.filter fun x => decide (0 < x)).length < 64 := Nat.lt_of_le_of_lt (List.length_filter_le ..) (by have := ok.few; omega)
  simp_arith! [back, wipe, List.getElem?_cons_succ, List.getElem?_cons_zero, Option.join_none, Option.join_some, List.cons_append, List.nil_append, if_pos (show 0 ≤ maxLen by decide), if_pos (show 1 ≤ maxLen by decide), if_pos (show 2 ≤ maxLen by decide), if_pos (show 3 ≤ maxLen by decide), hq, v_sortsetI hl, if_pos (show 1 < 7 by decide), if_pos (show 2 < 7 by decide)]
  rw [s_wh]
  refine wh_wp (fun env => ∃ left rs, Left L left rs ∧ ((env = [some (.val (.lst (L.map .int))), some (.own false (left.map .int)), some (.own false (rs.map runD)), none, none, none, none]) ∨
    ∃ a b c, env = [some (.val (.lst (L.map .int))), some (.own false (left.map .int)), some (.own false (rs.map runD)), some (.val a), some (.own false b), some (.val c), none])) headM ?_ _ _ ?_ ?_
  · rintro env ⟨left, rs, h, he⟩
    cases left with
    | nil =>
      have heq := h.eq
      have hres : eucD L = .tup [.tup (rs.map runD), .int 0] := by
        unfold eucD
        rw [heq]
        show rowD (rs ++ []) 0 = _
        rw [List.append_nil]; rfl
      rcases he with rfl | ⟨a, b, c, rfl⟩ <;>
      · simp_arith! [back, wipe, List.getElem?_cons_succ, List.getElem?_cons_zero, Option.join_none, Option.join_some, List.cons_append, List.nil_append, if_pos (show 0 ≤ maxLen by decide), if_pos (show 1 ≤ maxLen by decide), if_pos (show 2 ≤ maxLen by decide), if_pos (show 3 ≤ maxLen by decide), ne_nil, List.isEmpty_nil, Bool.not_true]
        refine ⟨fun h => (by cases h), fun _ => ?_⟩
        unfold B__law_euclid_1t
        simp_arith! [back, wipe, List.getElem?_cons_succ, List.getElem?_cons_zero, Option.join_none, Option.join_some, List.cons_append, List.nil_append, if_pos (show 0 ≤ maxLen by decide), if_pos (show 1 ≤ maxLen by decide), if_pos (show 2 ≤ maxLen by decide), if_pos (show 3 ≤ maxLen by decide)]
        rw [hres, h.ne rfl]
        rfl
    | cons s M =>
      have sp : 0 < s := h.asc.2 s (List.mem_cons_self ..)
      have sB : s ≤ bigB := h.small s (List.mem_cons_self ..)
      have slog : 0 < s ∧ s.natAbs.log2 < 9000 := ⟨sp, Nat.lt_of_lt_of_le (big_log sp sB) (by decide)⟩
      have hlen : ((s :: M).map D.int).length ≤ maxLen := by rw [List.length_map]; have := h.few; unfold maxLen; omega
      obtain ⟨l3, l4, l5, rfl, hd3⟩ : ∃ l3 l4 l5, env = [some (.val (.lst (L.map .int))), some (.own false ((s :: M).map .int)), some (.own false (rs.map runD)), l3, l4, l5, none] ∧ ((l3 = none ∧ l4 = none ∧ l5 = none) ∨ ∃ a b c, l3 = some (.val a) ∧ l4 = some (.own false b) ∧ l5 = some (.val c)) := by
        rcases he with he | ⟨a, b, c, he⟩
        · exact ⟨_, _, _, he, .inl ⟨rfl, rfl, rfl⟩⟩
        · exact ⟨_, _, _, he, .inr ⟨a, b, c, rfl, rfl, rfl⟩⟩
      have hq1 := q_fm (r := r) (t := .nm 6) (own := [6]) (it := .seq (.var 1)) (c := .one (.op .gt (.cons (.op .mod (.cons (.op .int (.cons (.var 6) .nil)) (.cons (.var 3) .nil))) (.cons (.cst (.int 0)) .nil)))) (e := .op .fdiv (.cons (.var 6) (.cons (.var 3) .nil)))
        (env := [some (.val (.lst (L.map .int))), some (.own false ((s :: M).map .int)), some (.own false (rs.map runD)), some (.val (.int s)), l4, l5, none])
        (env1 := [some (.val (.lst (L.map .int))), some (.val (.lst ((s :: M).map .int))), some (.own false (rs.map runD)), some (.val (.int s)), l4, l5, none]) (ds := (s :: M).map .int)
        (fun x => match x with | .int i => decide (0 < i % s) | _ => false) (fun x => match x with | .int i => .int (i / s) | _ => .non)
        (fun x => [some (.val (.lst (L.map .int))), some (.val (.lst ((s :: M).map .int))), some (.own false (rs.map runD)), some (.val (.int s)), l4, l5, some (.val x)]) (by simp!) rfl hlen (fun d _ => rfl) (fun d hd => by
          obtain ⟨i, _, rfl⟩ := List.mem_map.mp hd
          simp! [v_mod, if_pos sp]) (fun d hd _ => by
          obtain ⟨i, _, rfl⟩ := List.mem_map.mp hd
          exact ⟨.mv (.val (.int (i / s))), by simp! [v_fdiv, if_pos slog], rfl⟩) (fun d _ => rfl)
      rw [filt_map (fun x => decide (0 < x % s)) _ (fun x => x / s) _ (fun _ => rfl) (fun _ => rfl)] at hq1
      simp only [back, wipe, List.getElem?_cons_succ, List.getElem?_cons_zero, Option.join_none, Option.join_some, List.set_cons_zero, List.set_cons_succ] at hq1
      rw [show ((s :: M).filter (fun x => decide (0 < x % s))).map (fun x => x / s) = turnsE s (s :: M) from rfl] at hq1
      simp only [List.map_cons] at hq1
      cases et : turnsE s (s :: M) with
      | nil =>
        rw [et] at hq1
        have heq := h.eq
        rw [eucR_stop et, List.append_nil] at heq
        have hres : eucD L = .tup [.tup (rs.map runD), .int s] := by unfold eucD; rw [heq]; rfl
        rcases hd3 with ⟨rfl, rfl, rfl⟩ | ⟨a, b, c, rfl, rfl, rfl⟩ <;>
        · simp_arith! [back, wipe, List.getElem?_cons_succ, List.getElem?_cons_zero, Option.join_none, Option.join_some, List.cons_append, List.nil_append, if_pos (show 0 ≤ maxLen by decide), if_pos (show 1 ≤ maxLen by decide), if_pos (show 2 ≤ maxLen by decide), if_pos (show 3 ≤ maxLen by decide), ne_nil, List.isEmpty_cons, Bool.not_false]
          refine ⟨fun _ => ?_, fun h => (by cases h)⟩
          unfold B__law_euclid_1
          simp_arith! [back, wipe, List.getElem?_cons_succ, List.getElem?_cons_zero, Option.join_none, Option.join_some, List.cons_append, List.nil_append, if_pos (show 0 ≤ maxLen by decide), if_pos (show 1 ≤ maxLen by decide), if_pos (show 2 ≤ maxLen by decide), if_pos (show 3 ≤ maxLen by decide), List.map_cons, ixL0, hq1, eq_nil]
          rw [if_pos (show ([] : List Int).isEmpty = true from rfl), hres]
      | cons q qs =>
        have o := oneE h.asc et
        have sS := eucR_step h.asc et
        have heq := h.eq
        rw [sS] at heq
        have eml := v_minlI (l := turnsE s (s :: M))
        have eml : evalOp .minl [.lst ((turnsE s (s :: M)).map .int)] = some (.val (.int (least q qs))) := by
          rw [eml, et]
        have hfew : rs.length + 1 ≤ 1000 := by
          have g := goodE' (posL_asc L)
          have g1 := congrArg (fun p => p.1.length) heq
          have g3 : (eucR (posL L)).1.length ≤ 2 * 500 := g.falls.few 500 (by
            cases hp : posL L with
            | nil => exact (by decide : (0 : Int) < 2 ^ 500)
            | cons s' M' =>
              rw [← hp, g.hd s' M' hp]
              have h1 : s' ∈ posL L := by rw [hp]; exact List.mem_cons_self ..
              exact Int.lt_of_le_of_lt (ok.small s' (posL_mem.mp h1).1) (by decide))
          simp only [List.length_append, List.length_cons] at g1
          omega
        have hfew2 : (rs.map runD).length < maxLen := by rw [List.length_map]; unfold maxLen; omega
        generalize least q qs = t at *
        have tB : s * t ≤ bigB := by
          obtain ⟨x, hx, hl⟩ := o.big
          have := h.small x hx
          omega
        have tp := o.t1
        have tle : t ≤ s * t := by
          have := Int.mul_le_mul_of_nonneg_right (show 1 ≤ s by omega) (Int.le_of_lt tp)
          omega
        have lst : s.natAbs.log2 + t.natAbs.log2 < 1000000 := by
          have := big_log sp sB
          have := big_log tp (by omega)
          omega
        have hq2 := q_fm (r := r) (t := .nm 6) (own := [6]) (it := .seq (.var 1)) (c := .one (.op .gt (.cons (.var 6) (.cons (.op .mul (.cons (.var 3) (.cons (.var 5) .nil))) .nil)))) (e := .op .sub (.cons (.var 6) (.cons (.op .mul (.cons (.var 3) (.cons (.var 5) .nil))) .nil)))
          (env := [some (.val (.lst (L.map .int))), some (.val (.lst ((s :: M).map .int))), some (.own false (rs.map runD ++ [.tup [.int s, .int t]])), some (.val (.int s)), some (.own false ((turnsE s (s :: M)).map .int)), some (.val (.int t)), none])
          (env1 := [some (.val (.lst (L.map .int))), some (.val (.lst ((s :: M).map .int))), some (.own false (rs.map runD ++ [.tup [.int s, .int t]])), some (.val (.int s)), some (.own false ((turnsE s (s :: M)).map .int)), some (.val (.int t)), none]) (ds := (s :: M).map .int)
          (fun x => match x with | .int i => decide (s * t < i) | _ => false) (fun x => match x with | .int i => .int (i - s * t) | _ => .non)
          (fun x => [some (.val (.lst (L.map .int))), some (.val (.lst ((s :: M).map .int))), some (.own false (rs.map runD ++ [.tup [.int s, .int t]])), some (.val (.int s)), some (.own false ((turnsE s (s :: M)).map .int)), some (.val (.int t)), some (.val x)]) (by simp!) rfl hlen (fun d _ => rfl) (fun d hd => by
            obtain ⟨i, _, rfl⟩ := List.mem_map.mp hd
            simp! [v_mul, if_pos lst]) (fun d hd _ => by
            obtain ⟨i, _, rfl⟩ := List.mem_map.mp hd
            exact ⟨.mv (.val (.int (i - s * t))), by simp! [v_mul, if_pos lst], rfl⟩) (fun d _ => rfl)
        rw [filt_map (fun x => decide (s * t < x)) _ (fun x => x - s * t) _ (fun _ => rfl) (fun _ => rfl)] at hq2
        simp only [back, wipe, List.getElem?_cons_succ, List.getElem?_cons_zero, Option.join_none, Option.join_some, List.set_cons_zero, List.set_cons_succ, List.map_cons] at hq2
        have hfl : (((s :: M).filter (fun x => decide (s * t < x))).map (fun x => x - s * t)).length ≤ 60 := by
          rw [List.length_map]
          have := List.length_filter_le (fun x => decide (s * t < x)) (s :: M)
          have := h.few
          omega
        have l4' : ((((s :: M).filter (fun x => decide (s * t < x))).map (fun x => x - s * t)).map D.int).length + 1 ≤ maxLen := by rw [List.length_map]; unfold maxLen; omega
        have l5' : (((s :: M).filter (fun x => decide (s * t < x))).map (fun x => x - s * t) ++ [s]).length < 64 := by rw [List.length_append]; simp only [List.length_singleton]; omega
        have e4 : (((s :: M).filter (fun x => decide (s * t < x))).map (fun x => x - s * t)).map D.int ++ [D.int s] = (((s :: M).filter (fun x => decide (s * t < x))).map (fun x => x - s * t) ++ [s]).map D.int := by rw [List.map_append]; rfl
        rcases hd3 with ⟨rfl, rfl, rfl⟩ | ⟨a, b, c, rfl, rfl, rfl⟩ <;>
        · simp_arith! [back, wipe, List.getElem?_cons_succ, List.getElem?_cons_zero, Option.join_none, Option.join_some, List.cons_append, List.nil_append, if_pos (show 0 ≤ maxLen by decide), if_pos (show 1 ≤ maxLen by decide), if_pos (show 2 ≤ maxLen by decide), if_pos (show 3 ≤ maxLen by decide), ne_nil, List.isEmpty_cons, Bool.not_false]
          refine ⟨fun _ => ?_, fun h => (by cases h)⟩
          unfold B__law_euclid_1
          simp_arith! [back, wipe, List.getElem?_cons_succ, List.getElem?_cons_zero, Option.join_none, Option.join_some, List.cons_append, List.nil_append, if_pos (show 0 ≤ maxLen by decide), if_pos (show 1 ≤ maxLen by decide), if_pos (show 2 ≤ maxLen by decide), if_pos (show 3 ≤ maxLen by decide), List.map_cons, ixL0, hq1, eq_nil]
          rw [if_neg (show ¬ (turnsE s (s :: M)).isEmpty = true by rw [et]; simp)]
          simp_arith! [back, wipe, List.getElem?_cons_succ, List.getElem?_cons_zero, Option.join_none, Option.join_some, List.cons_append, List.nil_append, if_pos (show 0 ≤ maxLen by decide), if_pos (show 1 ≤ maxLen by decide), if_pos (show 2 ≤ maxLen by decide), if_pos (show 3 ≤ maxLen by decide), List.map_cons, List.isEmpty_cons, eml, if_pos hfew2, hq2, v_addL, if_pos l4', e4, v_sortsetI l5']
          refine ⟨⟨lessE s t (s :: M), rs ++ [(s, t)], ⟨o.asc, Nat.lt_of_le_of_lt o.len h.few, ?_, ?_, ?_⟩, .inr ⟨.int s, (turnsE s (s :: M)).map .int, .int t, ?_⟩⟩, ?_⟩
          · intro x hx
            rcases (o.mem x).mp hx with rfl | ⟨z, hz, h1, rfl⟩
            · exact sB
            · have := h.small z hz; omega
          · rw [heq, List.append_assoc]; rfl
          · intro e0
            obtain ⟨s', M', e', _⟩ := o.cons
            rw [e'] at e0; cases e0
          · rw [List.map_append]; rfl
          · obtain ⟨s', M', e', l1, l2⟩ := o.cons
            show (match some (Rx.M.own false ((lessE s t (s :: M)).map D.int)) with | some (.own _ (.int s :: _)) => s.toNat + 1 | _ => 0) < s.toNat + 1
            rw [e']
            show s'.toNat + 1 < s.toNat + 1
            omega
  · exact ⟨posL L, [], ⟨posL_asc L, Nat.lt_of_le_of_lt (posL_len L) ok.few, fun x hx => ok.small x (posL_mem.mp hx).1, rfl, fun _ => rfl⟩, .inl rfl⟩
  · show headM _ < headN 1 _
    unfold headM headN
    simp only [slot_1]
    generalize sortU (L.filter fun x => decide (0 < x)) = z
    cases z <;> simp
end
end Rx

/-! RxF6 -/
/-! RxF6: rows that are drawn. -/
set_option linter.all false
set_option Elab.async false
set_option maxRecDepth 100000
set_option maxHeartbeats 1000000
namespace Rx
local macro_rules
  | `(tactic| simp!) => `(tactic| simp only [slot_z, slot_1, slot_2, slot_3, slot_4, slot_5, slot_6, slot_7, slot_8, slot_9, slot_10, slot_11, slot_12, q_var, q_frz, q_cst, q_op, q_call, q_callK, q_tup, q_lst, q_ite, q_and, q_or, q_not, q_chain, q_pop, q_exAt, es_nil, es_cons, ks_nil, ks_cons, t_and, t_or, t_not, t_op, t_var, t_call, t_callK, t_chain, t_cst, c_yes, c_one, b_ok, b_exc, o_ok, o_exc, of_some, g_val, g_new, g_ref, gs_nil, gs_cons, k_val, k_new, tk_val, tk_new, tk_deal, gv_val, gv_new, gv_ref, m_val, m_new, p_nm, p_tp, p_tpp, putD_nil, putD_cons, putM_nil, putM_cons, put_def, free_def, ts_nil, ts_cons, t1_ok, t1_exc, tr_bl, tr_non, ss_nil, ss_cons, s_asg, s_par, s_aug, s_app, s_ext, s_pop, s_expr, s_doc, s_ret, s_retN, s_pass, s_brk, s_cnt, s_ite, s_raise, s_setix, s_ins, i_seq, i_rg1, i_rg2, i_enum, i_zip, i_rev, sq_lst, sq_tup, wl_vs, v_add, v_sub, v_neg, v_lt, v_le, v_gt, v_ge, v_isN, v_notN, v_isB, v_notB, v_rev, v_lenL, v_lenT, v_abs, v_int, v_listL, v_listT, v_tupleL, v_tupleT, v_max2, v_min2, v_isa, Option.bind_some, List.set_cons_zero, List.set_cons_succ, List.length_cons, List.length_nil, if_true, if_false, reduceIte, Bool.false_eq_true, decide_true, decide_false, isOwn])
  | `(tactic| simp! [$ls,*]) => `(tactic| simp only [slot_z, slot_1, slot_2, slot_3, slot_4, slot_5, slot_6, slot_7, slot_8, slot_9, slot_10, slot_11, slot_12, q_var, q_frz, q_cst, q_op, q_call, q_callK, q_tup, q_lst, q_ite, q_and, q_or, q_not, q_chain, q_pop, q_exAt, es_nil, es_cons, ks_nil, ks_cons, t_and, t_or, t_not, t_op, t_var, t_call, t_callK, t_chain, t_cst, c_yes, c_one, b_ok, b_exc, o_ok, o_exc, of_some, g_val, g_new, g_ref, gs_nil, gs_cons, k_val, k_new, tk_val, tk_new, tk_deal, gv_val, gv_new, gv_ref, m_val, m_new, p_nm, p_tp, p_tpp, putD_nil, putD_cons, putM_nil, putM_cons, put_def, free_def, ts_nil, ts_cons, t1_ok, t1_exc, tr_bl, tr_non, ss_nil, ss_cons, s_asg, s_par, s_aug, s_app, s_ext, s_pop, s_expr, s_doc, s_ret, s_retN, s_pass, s_brk, s_cnt, s_ite, s_raise, s_setix, s_ins, i_seq, i_rg1, i_rg2, i_enum, i_zip, i_rev, sq_lst, sq_tup, wl_vs, v_add, v_sub, v_neg, v_lt, v_le, v_gt, v_ge, v_isN, v_notN, v_isB, v_notB, v_rev, v_lenL, v_lenT, v_abs, v_int, v_listL, v_listT, v_tupleL, v_tupleT, v_max2, v_min2, v_isa, Option.bind_some, List.set_cons_zero, List.set_cons_succ, List.length_cons, List.length_nil, if_true, if_false, reduceIte, Bool.false_eq_true, decide_true, decide_false, isOwn, $ls,*])
local macro_rules
  | `(tactic| simp_arith!) => `(tactic| simp (config := { dsimp := false, implicitDefEqProofs := false }) only [↓wp_bind, ↓wp_o, ↓wo_cons, ↓wp_test1, ↓wp_ok, ↓w_op, ↓w_call, ↓w_callK, ↓w_tup, ↓w_lst, ↓w_ite, ↓w_es_nil, ↓w_es, ↓w_ks_nil, ↓w_ks, keptQ_val, keptQ_new, ↓w_and, ↓w_or, ↓w_not, ↓w_top, ↓w_tvar, ↓w_tcall, ↓w_tcallK, ↓w_teqR, ↓w_asg, ↓w_ret, ↓w_site, ↓w_expr, ↓w_par, ↓w_eqR, slot_z, slot_1, slot_2, slot_3, slot_4, slot_5, slot_6, slot_7, slot_8, slot_9, slot_10, slot_11, slot_12, q_var, q_frz, q_cst, q_op, q_call, q_callK, q_tup, q_lst, q_ite, q_and, q_or, q_not, q_chain, q_pop, q_exAt, es_nil, es_cons, ks_nil, ks_cons, t_and, t_or, t_not, t_op, t_var, t_call, t_callK, t_chain, t_cst, t_eqR, q_eqR, c_yes, c_one, b_ok, b_exc, o_ok, o_exc, of_some, g_val, g_new, g_ref, gs_nil, gs_cons, k_val, k_new, tk_val, tk_new, tk_deal, gv_val, gv_new, gv_ref, m_val, m_new, p_nm, p_tp, p_tpp, putD_nil, putD_cons, putM_nil, putM_cons, put_def, free_def, ts_nil, ts_cons, t1_ok, t1_exc, tr_bl, tr_non, ss_nil, s_asg, s_par, s_aug, s_app, s_ext, s_pop, s_expr, s_doc, s_ret, s_retN, s_pass, s_brk, s_cnt, s_ite, s_raise, s_setix, s_ins, i_seq, i_rg1, i_rg2, i_enum, i_zip, i_rev, sq_lst, sq_tup, wl_vs, v_add, v_sub, v_neg, v_lt, v_le, v_gt, v_ge, v_isN, v_notN, v_isB, v_notB, v_rev, v_lenL, v_lenT, v_abs, v_int, v_listL, v_listT, v_tupleL, v_tupleT, v_max2, v_min2, v_isa, Option.bind_some, List.set_cons_zero, List.set_cons_succ, List.length_cons, List.length_nil, if_true, if_false, reduceIte, Bool.false_eq_true, Bool.true_eq_false, decide_true, decide_false, isOwn, wp_ok, wp_exc, wp_bind, wp_o, wp_ite, wo_ite, wo_nx, wo_rt, wo_bk, wo_ct, wo_exc, wo_cons, wp_test1, tst_mk, v_eqI, v_neI, decide_eq_true_eq, Bool.not_eq_true', decide_eq_false_iff_not, Nat.reduceAdd, Nat.reduceLT, Nat.reduceLeDiff, Nat.zero_add, and_true, true_and])
  | `(tactic| simp_arith! [$ls,*]) => `(tactic| simp (config := { dsimp := false, implicitDefEqProofs := false }) only [↓wp_bind, ↓wp_o, ↓wo_cons, ↓wp_test1, ↓wp_ok, ↓w_op, ↓w_call, ↓w_callK, ↓w_tup, ↓w_lst, ↓w_ite, ↓w_es_nil, ↓w_es, ↓w_ks_nil, ↓w_ks, keptQ_val, keptQ_new, ↓w_and, ↓w_or, ↓w_not, ↓w_top, ↓w_tvar, ↓w_tcall, ↓w_tcallK, ↓w_teqR, ↓w_asg, ↓w_ret, ↓w_site, ↓w_expr, ↓w_par, ↓w_eqR, slot_z, slot_1, slot_2, slot_3, slot_4, slot_5, slot_6, slot_7, slot_8, slot_9, slot_10, slot_11, slot_12, q_var, q_frz, q_cst, q_op, q_call, q_callK, q_tup, q_lst, q_ite, q_and, q_or, q_not, q_chain, q_pop, q_exAt, es_nil, es_cons, ks_nil, ks_cons, t_and, t_or, t_not, t_op, t_var, t_call, t_callK, t_chain, t_cst, t_eqR, q_eqR, c_yes, c_one, b_ok, b_exc, o_ok, o_exc, of_some, g_val, g_new, g_ref, gs_nil, gs_cons, k_val, k_new, tk_val, tk_new, tk_deal, gv_val, gv_new, gv_ref, m_val, m_new, p_nm, p_tp, p_tpp, putD_nil, putD_cons, putM_nil, putM_cons, put_def, free_def, ts_nil, ts_cons, t1_ok, t1_exc, tr_bl, tr_non, ss_nil, s_asg, s_par, s_aug, s_app, s_ext, s_pop, s_expr, s_doc, s_ret, s_retN, s_pass, s_brk, s_cnt, s_ite, s_raise, s_setix, s_ins, i_seq, i_rg1, i_rg2, i_enum, i_zip, i_rev, sq_lst, sq_tup, wl_vs, v_add, v_sub, v_neg, v_lt, v_le, v_gt, v_ge, v_isN, v_notN, v_isB, v_notB, v_rev, v_lenL, v_lenT, v_abs, v_int, v_listL, v_listT, v_tupleL, v_tupleT, v_max2, v_min2, v_isa, Option.bind_some, List.set_cons_zero, List.set_cons_succ, List.length_cons, List.length_nil, if_true, if_false, reduceIte, Bool.false_eq_true, Bool.true_eq_false, decide_true, decide_false, isOwn, wp_ok, wp_exc, wp_bind, wp_o, wp_ite, wo_ite, wo_nx, wo_rt, wo_bk, wo_ct, wo_exc, wo_cons, wp_test1, tst_mk, v_eqI, v_neI, decide_eq_true_eq, Bool.not_eq_true', decide_eq_false_iff_not, Nat.reduceAdd, Nat.reduceLT, Nat.reduceLeDiff, Nat.zero_add, and_true, true_and, $ls,*])
/-- a falling row that may be reckoned with -/
structure RowOk (rs : List (Int × Int)) (e : Int) : Prop where
  falls : Falls rs e
  mul : ∀ p ∈ rs, p.1 * p.2 ≤ bigB
  le : e ≤ bigB
theorem RowOk.runs {rs : List (Int × Int)} {e : Int} (h : RowOk rs e) {p : Int × Int} (hp : p ∈ rs) : 0 < p.1 ∧ 0 < p.2 ∧ p.1 ≤ bigB ∧ p.2 ≤ bigB := by
  obtain ⟨a, b⟩ := h.falls.pos p hp
  have m := h.mul p hp
  have h1 := Int.mul_le_mul_of_nonneg_left (show 1 ≤ p.2 by omega) (Int.le_of_lt a)
  have h2 := Int.mul_le_mul_of_nonneg_right (show 1 ≤ p.1 by omega) (Int.le_of_lt b)
  exact ⟨a, b, by omega, by omega⟩
theorem big_lt : bigB < 2 ^ 500 := by decide
theorem RowOk.hdle {rs : List (Int × Int)} {e : Int} (h : RowOk rs e) : hdR rs e ≤ bigB := by
  cases rs with
  | nil => exact h.le
  | cons p rs => exact (h.runs (List.mem_cons_self ..)).2.2.1
theorem RowOk.few {rs : List (Int × Int)} {e : Int} (h : RowOk rs e) : rs.length ≤ 1000 := h.falls.few 500 (Int.lt_of_le_of_lt h.hdle big_lt)
theorem RowOk.rok {rs : List (Int × Int)} {e : Int} (h : RowOk rs e) : RunsOk rs := fun p hp => by
  obtain ⟨a, b, c, d⟩ := h.runs hp
  have := big_log a c
  have := big_log b d
  exact ⟨a, by omega⟩
theorem RowOk.mild {rs : List (Int × Int)} {e : Int} (h : RowOk rs e) : Mild (rowD rs e) := by
  refine ⟨fun ds l he => ?_, fun ds e' rs' he hr p hp => ?_⟩
  · cases he
    rw [List.length_map]; have := h.few; omega
  · cases he
    rw [runsOf_map h.falls.pos] at hr
    cases hr
    exact (h.rok p hp).2
theorem eucR_ok {L : List Int} (h : Asc L) (hB : ∀ x ∈ L, x ≤ bigB) : RowOk (eucR L).1 (eucR L).2 := by
  have g := goodE' h
  refine ⟨g.falls, (g.le bigB hB).2, ?_⟩
  cases L with
  | nil => exact (by decide : (0 : Int) ≤ bigB)
  | cons s M => exact (g.le bigB hB).1 (by simp)
/-- a drawn row -/
def IsRow (d : D) : Prop := ∃ rs e, d = rowD rs e ∧ RowOk rs e
theorem eucD_row {L : List Int} (ok : EucOk L) : IsRow (eucD L) := ⟨_, _, rfl, eucR_ok (posL_asc L) fun x hx => ok.small x (posL_mem.mp hx).1⟩
/-- a deal behind another one -/
def Dlt (b0 : Nat × List Int) (b : Nat × List Int) (s : Int) : Prop := b.1 = b0.1 ∧ Dealt b s
section
variable {r : Fs}
theorem w_of (h10 : r 10 = anyF) {b : Nat × List Int} {s : Int} {xs : List D} (hd : Dealt b s) (h0 : 0 < xs.length) (h1 : xs.length ≤ 1000) :
    (denF r 2 2 B__law_of [.deal true b s, .val (.lst xs)]).wp (fun m ms => ∃ d b' s', m = .val d ∧ ms = [.deal true b' s', .val (.lst xs)] ∧ b'.1 = b.1 ∧ Dealt b' s' ∧ d ∈ xs) fun _ _ => False := by
  refine fn_wp rfl rfl ?_
  unfold B__law_of
  simp only [List.map_cons, List.map_nil, List.cons_append, List.nil_append, List.length_cons, List.length_nil, Nat.zero_add, Nat.reduceAdd, Nat.sub_self, List.replicate_zero]
  simp_arith!
  refine call_any (i := 0) h10 rfl hd (by omega) (Nat.lt_of_le_of_lt (Nat.log2_le_self _) (by omega)) fun j b' s' e1 h2 h3 h4 => ?_
  have hp : place xs.length j = some j.toNat := by unfold place; rw [if_pos h3, if_pos h4]
  have hj : j.toNat < xs.length := by omega
  simp_arith! [v_ixL, hp, List.getElem?_eq_getElem hj, Option.map_some]
  exact ⟨[.deal true b' s', .val (.lst xs)], by simp only [lentBack, if_pos e1.symm, Option.map_some], _, b', s', rfl, rfl, e1, h2, List.getElem_mem hj⟩
/-- a comprehension of draws -/
theorem comp_dr {i : Nat} {b0 : Nat × List Int} {U : Nat × List Int → Int → Env} {e : E} {Po : Int → Prop} {ds : List D} (hl : ds.length ≤ maxLen)
    (hp : ∀ b s d, Rx.T.put (.nm i) (some (.val d)) (U b s) = some ((U b s).set i (some (.val d)))) (hw : ∀ b s d, wipe ((U b s).set i (some (.val d))) [i] = U b s)
    (step : ∀ b s d, Dlt b0 b s → R.wp (denG r e false ((U b s).set i (some (.val d)))) (fun p => ∃ x b' s', p = (.mv (.val (.int x)), (U b' s').set i (some (.val d))) ∧ Dlt b0 b' s' ∧ Po x) fun _ _ _ => False) {b : Nat × List Int} {s : Int} (hd : Dlt b0 b s) :
    ∃ (L : List Int) (b' : Nat × List Int) (s' : Int), compF (.nm i) [i] (.vs ds) (denC r .yes) (denG r e false) (ds.length + 1) 0 [] (U b s) = .ok (L.map D.int, U b' s') ∧ Dlt b0 b' s' ∧ L.length = ds.length ∧ ∀ x ∈ L, Po x := by
  obtain ⟨acc, e', h1, ⟨L, b', s', rfl, rfl, h2, h3, h4⟩, _⟩ := comp_wp (t := .nm i) (own := [i]) (w := .vs ds) (fc := denC r .yes) (fe := denG r e false) (ds := ds) (fun k acc env => ∃ (L : List Int) (b' : Nat × List Int) (s' : Int), acc = L.map D.int ∧ env = U b' s' ∧ Dlt b0 b' s' ∧ L.length = k ∧ ∀ x ∈ L, Po x)
    (fun k acc e _ => rfl) hl (by
      rintro k acc env d ⟨L, b1, s1, rfl, rfl, h2, h3, h4⟩ _
      refine ⟨_, hp b1 s1 d, ?_⟩
      rw [c_yes, wp_ok]
      refine .inl ⟨rfl, wp_mono (step b1 s1 d h2) ?_ (fun _ _ _ h => h)⟩
      rintro p ⟨x, b', s', rfl, h5, h6⟩
      refine ⟨.int x, rfl, L ++ [x], b', s', by rw [List.map_append]; rfl, hw b' s' d, h5, by rw [List.length_append, h3]; rfl, fun y hy => ?_⟩
      rcases List.mem_append.mp hy with hy | hy
      · exact h4 y hy
      · rw [List.mem_singleton.mp hy]; exact h6) (ds.length + 1) 0 [] (U b s) ⟨[], b, s, rfl, rfl, hd, rfl, fun x hx => (by cases hx)⟩ (Nat.zero_le _) (by omega) (Nat.le_refl _)
  exact ⟨L, b', s', h1, h2, h3, h4⟩
/-- .. over a range -/
theorem q_dr {i : Nat} {b0 : Nat × List Int} {U : Nat × List Int → Int → Env} {c e : E} {env : Env} {Po : Int → Prop} {m : Nat} {K : Q × Env → Prop} {X : Nat → D → Env → Prop} (hm : m ≤ 1000)
    (hp : ∀ b s d, Rx.T.put (.nm i) (some (.val d)) (U b s) = some ((U b s).set i (some (.val d)))) (hw : ∀ b s d, wipe ((U b s).set i (some (.val d))) [i] = U b s)
    (hc : ∀ b s, clear (U b s) [i] = true) (hb : ∀ b s b' s', back (U b s) (U b' s') [i] = U b' s') (hw0 : ∀ b s, wipe (U b s) [i] = U b s)
    (cnt : R.wp (denG r c false env) (fun p => ∃ n b' s', p = (.mv (.val (.int n)), U b' s') ∧ Dlt b0 b' s' ∧ 0 ≤ n ∧ n ≤ m) X)
    (step : ∀ b s d, Dlt b0 b s → R.wp (denG r e false ((U b s).set i (some (.val d)))) (fun p => ∃ x b' s', p = (.mv (.val (.int x)), (U b' s').set i (some (.val d))) ∧ Dlt b0 b' s' ∧ Po x) fun _ _ _ => False)
    (k : ∀ (L : List Int) (b' : Nat × List Int) (s' : Int), Dlt b0 b' s' → L.length ≤ m → (∀ x ∈ L, Po x) → K (.mv (.own false (L.map D.int)), U b' s')) :
    R.wp (denG r (.comp (.nm i) [i] (.rg1 c) .yes e) false env) K X := by
  rw [q_comp, i_rg1]
  simp only [wp_bind]
  refine wp_mono cnt ?_ fun _ _ _ h => h
  rintro p ⟨n, b', s', rfl, hd, h0, h1⟩
  dsimp only
  rw [g_val]
  dsimp only
  rw [if_pos (by omega), wp_ok]
  dsimp only
  rw [if_pos (hc b' s'), hw0]
  obtain ⟨L, b2, s2, e1, h2, h3, h4⟩ := comp_dr (r := r) (i := i) (b0 := b0) (U := U) (e := e) (Po := Po) (ds := rangeC 0 1 n.toNat) (by simp [rangeC]; unfold maxLen; omega) hp hw step hd
  have hlen : (rangeC 0 1 n.toNat).length = n.toNat := by simp [rangeC]
  show R.wp (match compF (.nm i) [i] (.vs (rangeC 0 1 n.toNat)) (denC r .yes) (denG r e false) ((rangeC 0 1 n.toNat).length + 1) 0 [] (U b' s') with
          | .ok (ds, env2) => R.ok (Q.mv (.own false ds), back (U b' s') env2 [i])
          | _ => .stuck) K X
  rw [e1]
  dsimp only
  rw [wp_ok, hb]
  exact k L b2 s2 h2 (by rw [h3, hlen]; omega) h4
end
end Rx

/-! RxF7 -/
/-! RxF7: a drawn row. -/
set_option linter.all false
set_option Elab.async false
set_option maxRecDepth 100000
set_option maxHeartbeats 1000000
namespace Rx
local macro_rules
  | `(tactic| simp!) => `(tactic| simp only [slot_z, slot_1, slot_2, slot_3, slot_4, slot_5, slot_6, slot_7, slot_8, slot_9, slot_10, slot_11, slot_12, q_var, q_frz, q_cst, q_op, q_call, q_callK, q_tup, q_lst, q_ite, q_and, q_or, q_not, q_chain, q_pop, q_exAt, es_nil, es_cons, ks_nil, ks_cons, t_and, t_or, t_not, t_op, t_var, t_call, t_callK, t_chain, t_cst, c_yes, c_one, b_ok, b_exc, o_ok, o_exc, of_some, g_val, g_new, g_ref, gs_nil, gs_cons, k_val, k_new, tk_val, tk_new, tk_deal, gv_val, gv_new, gv_ref, m_val, m_new, p_nm, p_tp, p_tpp, putD_nil, putD_cons, putM_nil, putM_cons, put_def, free_def, ts_nil, ts_cons, t1_ok, t1_exc, tr_bl, tr_non, ss_nil, ss_cons, s_asg, s_par, s_aug, s_app, s_ext, s_pop, s_expr, s_doc, s_ret, s_retN, s_pass, s_brk, s_cnt, s_ite, s_raise, s_setix, s_ins, i_seq, i_rg1, i_rg2, i_enum, i_zip, i_rev, sq_lst, sq_tup, wl_vs, v_add, v_sub, v_neg, v_lt, v_le, v_gt, v_ge, v_isN, v_notN, v_isB, v_notB, v_rev, v_lenL, v_lenT, v_abs, v_int, v_listL, v_listT, v_tupleL, v_tupleT, v_max2, v_min2, v_isa, Option.bind_some, List.set_cons_zero, List.set_cons_succ, List.length_cons, List.length_nil, if_true, if_false, reduceIte, Bool.false_eq_true, decide_true, decide_false, isOwn])
  | `(tactic| simp! [$ls,*]) => `(tactic| simp only [slot_z, slot_1, slot_2, slot_3, slot_4, slot_5, slot_6, slot_7, slot_8, slot_9, slot_10, slot_11, slot_12, q_var, q_frz, q_cst, q_op, q_call, q_callK, q_tup, q_lst, q_ite, q_and, q_or, q_not, q_chain, q_pop, q_exAt, es_nil, es_cons, ks_nil, ks_cons, t_and, t_or, t_not, t_op, t_var, t_call, t_callK, t_chain, t_cst, c_yes, c_one, b_ok, b_exc, o_ok, o_exc, of_some, g_val, g_new, g_ref, gs_nil, gs_cons, k_val, k_new, tk_val, tk_new, tk_deal, gv_val, gv_new, gv_ref, m_val, m_new, p_nm, p_tp, p_tpp, putD_nil, putD_cons, putM_nil, putM_cons, put_def, free_def, ts_nil, ts_cons, t1_ok, t1_exc, tr_bl, tr_non, ss_nil, ss_cons, s_asg, s_par, s_aug, s_app, s_ext, s_pop, s_expr, s_doc, s_ret, s_retN, s_pass, s_brk, s_cnt, s_ite, s_raise, s_setix, s_ins, i_seq, i_rg1, i_rg2, i_enum, i_zip, i_rev, sq_lst, sq_tup, wl_vs, v_add, v_sub, v_neg, v_lt, v_le, v_gt, v_ge, v_isN, v_notN, v_isB, v_notB, v_rev, v_lenL, v_lenT, v_abs, v_int, v_listL, v_listT, v_tupleL, v_tupleT, v_max2, v_min2, v_isa, Option.bind_some, List.set_cons_zero, List.set_cons_succ, List.length_cons, List.length_nil, if_true, if_false, reduceIte, Bool.false_eq_true, decide_true, decide_false, isOwn, $ls,*])
local macro_rules
  | `(tactic| simp_arith!) => `(tactic| simp (config := { dsimp := false, implicitDefEqProofs := false }) only [↓wp_bind, ↓wp_o, ↓wo_cons, ↓wp_test1, ↓wp_ok, ↓w_op, ↓w_call, ↓w_callK, ↓w_tup, ↓w_lst, ↓w_ite, ↓w_es_nil, ↓w_es, ↓w_ks_nil, ↓w_ks, keptQ_val, keptQ_new, ↓w_and, ↓w_or, ↓w_not, ↓w_top, ↓w_tvar, ↓w_tcall, ↓w_tcallK, ↓w_teqR, ↓w_asg, ↓w_ret, ↓w_site, ↓w_expr, ↓w_par, ↓w_eqR, slot_z, slot_1, slot_2, slot_3, slot_4, slot_5, slot_6, slot_7, slot_8, slot_9, slot_10, slot_11, slot_12, q_var, q_frz, q_cst, q_op, q_call, q_callK, q_tup, q_lst, q_ite, q_and, q_or, q_not, q_chain, q_pop, q_exAt, es_nil, es_cons, ks_nil, ks_cons, t_and, t_or, t_not, t_op, t_var, t_call, t_callK, t_chain, t_cst, t_eqR, q_eqR, c_yes, c_one, b_ok, b_exc, o_ok, o_exc, of_some, g_val, g_new, g_ref, gs_nil, gs_cons, k_val, k_new, tk_val, tk_new, tk_deal, gv_val, gv_new, gv_ref, m_val, m_new, p_nm, p_tp, p_tpp, putD_nil, putD_cons, putM_nil, putM_cons, put_def, free_def, ts_nil, ts_cons, t1_ok, t1_exc, tr_bl, tr_non, ss_nil, s_asg, s_par, s_aug, s_app, s_ext, s_pop, s_expr, s_doc, s_ret, s_retN, s_pass, s_brk, s_cnt, s_ite, s_raise, s_setix, s_ins, i_seq, i_rg1, i_rg2, i_enum, i_zip, i_rev, sq_lst, sq_tup, wl_vs, v_add, v_sub, v_neg, v_lt, v_le, v_gt, v_ge, v_isN, v_notN, v_isB, v_notB, v_rev, v_lenL, v_lenT, v_abs, v_int, v_listL, v_listT, v_tupleL, v_tupleT, v_max2, v_min2, v_isa, Option.bind_some, List.set_cons_zero, List.set_cons_succ, List.length_cons, List.length_nil, if_true, if_false, reduceIte, Bool.false_eq_true, Bool.true_eq_false, decide_true, decide_false, isOwn, wp_ok, wp_exc, wp_bind, wp_o, wp_ite, wo_ite, wo_nx, wo_rt, wo_bk, wo_ct, wo_exc, wo_cons, wp_test1, tst_mk, v_eqI, v_neI, decide_eq_true_eq, Bool.not_eq_true', decide_eq_false_iff_not, Nat.reduceAdd, Nat.reduceLT, Nat.reduceLeDiff, Nat.zero_add, and_true, true_and])
  | `(tactic| simp_arith! [$ls,*]) => `(tactic| simp (config := { dsimp := false, implicitDefEqProofs := false }) only [↓wp_bind, ↓wp_o, ↓wo_cons, ↓wp_test1, ↓wp_ok, ↓w_op, ↓w_call, ↓w_callK, ↓w_tup, ↓w_lst, ↓w_ite, ↓w_es_nil, ↓w_es, ↓w_ks_nil, ↓w_ks, keptQ_val, keptQ_new, ↓w_and, ↓w_or, ↓w_not, ↓w_top, ↓w_tvar, ↓w_tcall, ↓w_tcallK, ↓w_teqR, ↓w_asg, ↓w_ret, ↓w_site, ↓w_expr, ↓w_par, ↓w_eqR, slot_z, slot_1, slot_2, slot_3, slot_4, slot_5, slot_6, slot_7, slot_8, slot_9, slot_10, slot_11, slot_12, q_var, q_frz, q_cst, q_op, q_call, q_callK, q_tup, q_lst, q_ite, q_and, q_or, q_not, q_chain, q_pop, q_exAt, es_nil, es_cons, ks_nil, ks_cons, t_and, t_or, t_not, t_op, t_var, t_call, t_callK, t_chain, t_cst, t_eqR, q_eqR, c_yes, c_one, b_ok, b_exc, o_ok, o_exc, of_some, g_val, g_new, g_ref, gs_nil, gs_cons, k_val, k_new, tk_val, tk_new, tk_deal, gv_val, gv_new, gv_ref, m_val, m_new, p_nm, p_tp, p_tpp, putD_nil, putD_cons, putM_nil, putM_cons, put_def, free_def, ts_nil, ts_cons, t1_ok, t1_exc, tr_bl, tr_non, ss_nil, s_asg, s_par, s_aug, s_app, s_ext, s_pop, s_expr, s_doc, s_ret, s_retN, s_pass, s_brk, s_cnt, s_ite, s_raise, s_setix, s_ins, i_seq, i_rg1, i_rg2, i_enum, i_zip, i_rev, sq_lst, sq_tup, wl_vs, v_add, v_sub, v_neg, v_lt, v_le, v_gt, v_ge, v_isN, v_notN, v_isB, v_notB, v_rev, v_lenL, v_lenT, v_abs, v_int, v_listL, v_listT, v_tupleL, v_tupleT, v_max2, v_min2, v_isa, Option.bind_some, List.set_cons_zero, List.set_cons_succ, List.length_cons, List.length_nil, if_true, if_false, reduceIte, Bool.false_eq_true, Bool.true_eq_false, decide_true, decide_false, isOwn, wp_ok, wp_exc, wp_bind, wp_o, wp_ite, wo_ite, wo_nx, wo_rt, wo_bk, wo_ct, wo_exc, wo_cons, wp_test1, tst_mk, v_eqI, v_neI, decide_eq_true_eq, Bool.not_eq_true', decide_eq_false_iff_not, Nat.reduceAdd, Nat.reduceLT, Nat.reduceLeDiff, Nat.zero_add, and_true, true_and, $ls,*])
theorem lb1 {b b' : Nat × List Int} {s s' : Int} {env : Env} (h : b'.1 = b.1) : lentBack [.deal true b s] (some (.deal true b' s') :: env) = some [.deal true b' s'] := by simp only [lentBack, if_pos h.symm, Option.map_some]
theorem rf_mono {x : RF} {K K' : M → List M → Prop} {X : Nat → D → Prop} (h : x.wp K X) (k : ∀ m ms, K m ms → K' m ms) : x.wp K' X := by
  cases x with
  | ok m ms => exact k m ms h
  | exc c d => exact h
  | stuck => exact h
/-- what a def that draws and tells d is asked for -/
def Drw (b : Nat × List Int) (Po : D → Prop) (m : M) (ms : List M) : Prop := ∃ d b' s', m = .val d ∧ ms = [.deal true b' s'] ∧ b'.1 = b.1 ∧ Dealt b' s' ∧ Po d
theorem drw_end {b b' : Nat × List Int} {s s' : Int} {env : Env} {Po : D → Prop} {d : D} (h : b'.1 = b.1) (hd : Dealt b' s') (hp : Po d) : ∃ ms', lentBack [.deal true b s] (some (.deal true b' s') :: env) = some ms' ∧ Drw b Po (.val d) ms' := ⟨_, lb1 h, _, _, _, rfl, rfl, h, hd, hp⟩
theorem small_log {n k : Nat} (h : n < 2 ^ k) (h0 : n ≠ 0) : n.log2 < k := (Nat.log2_lt h0).mpr h
section
variable {r : Fs}
theorem w_row (h10 : r 10 = anyF) (h11 : ∀ {b : Nat × List Int} {s : Int} {xs : List D}, Dealt b s → 0 < xs.length → xs.length ≤ 1000 → (r 11 [.deal true b s, .val (.lst xs)]).wp (fun m ms => ∃ d b' s', m = .val d ∧ ms = [.deal true b' s', .val (.lst xs)] ∧ b'.1 = b.1 ∧ Dealt b' s' ∧ d ∈ xs) fun _ _ => False)
    (h13 : ∀ {L : List Int}, EucOk L → r 13 [.val (.lst (L.map .int))] = .ok (.val (eucD L)) [.val (.lst (L.map .int))]) {b : Nat × List Int} {s : Int} (hd : Dealt b s) :
    (denF r 1 5 B__law_row [.deal true b s]).wp (Drw b IsRow) fun _ _ => False := by
  refine fn_wp rfl rfl ?_
  unfold B__law_row
  simp only [List.map_cons, List.map_nil, List.cons_append, List.nil_append, List.length_cons, List.length_nil, Nat.zero_add, Nat.reduceAdd, Nat.reduceSub, List.replicate_succ, List.replicate_zero]
  simp_arith!
  refine call_any (i := 0) h10 rfl hd (by decide) (by decide) fun form b1 s1 e1 h1 f0 f1 => ?_
  simp_arith!
  by_cases c0 : form = 0
  · rw [if_pos c0, if_pos (by decide)]
    refine call_any (i := 0) h10 rfl h1 (by decide) (by decide) fun j b2 s2 e2 h2 j0 j1 => ?_
    simp_arith! [back, wipe, List.getElem?_cons_succ, List.getElem?_cons_zero, Option.join_none, Option.join_some, List.cons_append, List.nil_append, if_pos (show 0 ≤ maxLen by decide), if_pos (show 1 ≤ maxLen by decide), if_pos (show 2 ≤ maxLen by decide), if_pos (show 3 ≤ maxLen by decide)]
    refine drw_end (e2.trans e1) h2 ⟨[], j, rfl, ⟨fun p hp => (by cases hp), j0, fun h => (h rfl).elim, rfl⟩, fun p hp => (by cases hp), Int.le_trans (Int.le_of_lt j1) (by decide)⟩
  · rw [if_neg c0]
    by_cases c1 : form < 4
    · rw [if_pos c1]
      refine q_dr (i := 4) (b0 := b) (U := fun b s => [some (.deal true b s), some (.val (.int form)), none, none, none]) (m := 4) (Po := fun x => x ≤ 24) (by decide) (fun _ _ _ => rfl) (fun _ _ _ => rfl) (fun _ _ => rfl) (fun _ _ _ _ => rfl) (fun _ _ => rfl) ?_ ?_ ?_
      · simp_arith!
        refine call_any (i := 0) h10 rfl h1 (by decide) (by decide) fun j b2 s2 e2 h2 j0 j1 => ?_
        simp_arith!
        exact ⟨_, _, _, rfl, ⟨e2.trans e1, h2⟩, by omega, by omega⟩
      · intro b3 s3 d h3
        simp_arith!
        refine call_any (i := 0) h10 rfl h3.2 (by decide) (by decide) fun j b2 s2 e2 h2 j0 j1 => ?_
        simp_arith!
        exact ⟨_, _, _, rfl, ⟨e2.trans h3.1, h2⟩, by omega⟩
      · intro L b3 s3 h3 hl hx
        have ok : EucOk L := ⟨by omega, fun x hx' => Int.le_trans (hx x hx') (by decide)⟩
        simp_arith! [call1o (h13 ok)]
        exact drw_end h3.1 h3.2 (eucD_row ok)
    · rw [if_neg c1]
      by_cases c2 : form < 6
      · rw [if_pos c2]
        rw [if_pos (by decide)]
        refine call_dl (i := 0) (Po := fun d => ∃ i : Int, d = .int i ∧ 1 ≤ i ∧ i ≤ 6) rfl (rf_mono (h11 h1 (by simp) (by simp)) ?_) ?_
        · rintro m ms ⟨d, b', s', rfl, rfl, g1, g2, g3⟩
          refine ⟨d, b', s', rfl, rfl, g1, g2, ?_⟩
          simp only [List.mem_cons, List.not_mem_nil, or_false] at g3
          rcases g3 with rfl | rfl | rfl | rfl | rfl <;> exact ⟨_, rfl, by decide, by decide⟩
        · rintro d b2 s2 e2 h2 ⟨i, rfl, i1, i2⟩
          simp_arith! [back, wipe, List.getElem?_cons_succ, List.getElem?_cons_zero, Option.join_none, Option.join_some, List.cons_append, List.nil_append, if_pos (show 0 ≤ maxLen by decide), if_pos (show 1 ≤ maxLen by decide), if_pos (show 2 ≤ maxLen by decide), if_pos (show 3 ≤ maxLen by decide)]
          have il : i.natAbs.log2 < 10 := small_log (k := 10) (by omega) (by omega)
          have hm : ∀ {x : Int}, 0 < x → x ≤ 100 → i.natAbs.log2 + x.natAbs.log2 < 1000000 := fun {x} a b => by
            have : x.natAbs.log2 < 10 := small_log (k := 10) (by omega) (by omega)
            omega
          have hmul : ∀ {x : Int}, 0 < x → x ≤ 40 → i * x ≤ 240 := fun {x} a b => by
            have h1 := Int.mul_le_mul_of_nonneg_right i2 (Int.le_of_lt a)
            omega
          refine q_dr (i := 4) (b0 := b) (U := fun b s => [some (.deal true b s), some (.val (.int form)), some (.val (.int i)), none, none]) (m := 4) (Po := fun x => x ≤ 240) (by decide) (fun _ _ _ => rfl) (fun _ _ _ => rfl) (fun _ _ => rfl) (fun _ _ _ _ => rfl) (fun _ _ => rfl) ?_ ?_ ?_
          · simp_arith!
            refine call_any (i := 0) h10 rfl h2 (by decide) (by decide) fun j b3 s3 e3 h3 j0 j1 => ?_
            simp_arith!
            exact ⟨_, _, _, rfl, ⟨e3.trans (e2.trans e1), h3⟩, by omega, by omega⟩
          · intro b3 s3 d h3
            simp_arith!
            refine call_any (i := 0) h10 rfl h3.2 (by decide) (by decide) fun j b4 s4 e4 h4 j0 j1 => ?_
            simp_arith! [v_mul, if_pos (hm (x := 1 + j) (by omega) (by omega))]
            exact ⟨_, _, _, rfl, ⟨e4.trans h3.1, h4⟩, hmul (by omega) (by omega)⟩
          · intro L b3 s3 h3 hl hx
            simp_arith!
            refine call_any (i := 0) h10 rfl h3.2 (by decide) (by decide) fun j b4 s4 e4 h4 j0 j1 => ?_
            have ok : EucOk (L ++ [i * (20 + j)]) := ⟨by rw [List.length_append]; simp; omega, fun x hx' => by
              rcases List.mem_append.mp hx' with hx' | hx'
              · exact Int.le_trans (hx x hx') (by decide)
              · rw [List.mem_singleton.mp hx']
                exact Int.le_trans (hmul (by omega) (by omega)) (by decide)⟩
            have e5 : L.map D.int ++ [.int (i * (20 + j))] = (L ++ [i * (20 + j)]).map D.int := by rw [List.map_append]; rfl
            have l6 : (L.map D.int).length + 1 ≤ maxLen := by rw [List.length_map]; unfold maxLen; omega
            simp_arith! [back, wipe, List.getElem?_cons_succ, List.getElem?_cons_zero, Option.join_none, Option.join_some, List.cons_append, List.nil_append, if_pos (show 0 ≤ maxLen by decide), if_pos (show 1 ≤ maxLen by decide), if_pos (show 2 ≤ maxLen by decide), if_pos (show 3 ≤ maxLen by decide), v_mul, if_pos (hm (x := 20 + j) (by omega) (by omega)), v_addL, if_pos l6, e5, call1o (h13 ok)]
            exact drw_end (e4.trans h3.1) h4 (eucD_row ok)
      · rw [if_neg c2]
        simp_arith! [back, wipe, List.getElem?_cons_succ, List.getElem?_cons_zero, Option.join_none, Option.join_some, List.cons_append, List.nil_append, if_pos (show 0 ≤ maxLen by decide), if_pos (show 1 ≤ maxLen by decide), if_pos (show 2 ≤ maxLen by decide), if_pos (show 3 ≤ maxLen by decide), v_pow, if_pos (show (0 : Int) ≤ 3 ∧ (3 : Int) ≤ 1000 ∧ (10 : Int).natAbs < 2 ^ 60 by decide), if_pos (show (0 : Int) ≤ 6 ∧ (6 : Int) ≤ 1000 ∧ (10 : Int).natAbs < 2 ^ 60 by decide), if_pos (show (0 : Int) ≤ 12 ∧ (12 : Int) ≤ 1000 ∧ (10 : Int).natAbs < 2 ^ 60 by decide), if_pos (show (0 : Int) ≤ 29 ∧ (29 : Int) ≤ 1000 ∧ (10 : Int).natAbs < 2 ^ 60 by decide)]
        rw [if_pos (by decide)]
        refine call_dl (i := 0) (Po := fun d => ∃ i : Int, d = .int i ∧ 1 ≤ i ∧ i ≤ 10 ^ 29) rfl (rf_mono (h11 h1 (by simp) (by simp)) ?_) ?_
        · rintro m ms ⟨d, b', s', rfl, rfl, g1, g2, g3⟩
          refine ⟨d, b', s', rfl, rfl, g1, g2, ?_⟩
          simp only [List.mem_cons, List.not_mem_nil, or_false] at g3
          rcases g3 with rfl | rfl | rfl | rfl <;> exact ⟨_, rfl, by decide, by decide⟩
        · rintro d b2 s2 e2 h2 ⟨i, rfl, i1, i2⟩
          simp_arith! [back, wipe, List.getElem?_cons_succ, List.getElem?_cons_zero, Option.join_none, Option.join_some, List.cons_append, List.nil_append, if_pos (show 0 ≤ maxLen by decide), if_pos (show 1 ≤ maxLen by decide), if_pos (show 2 ≤ maxLen by decide), if_pos (show 3 ≤ maxLen by decide)]
          refine q_dr (i := 4) (b0 := b) (U := fun b s => [some (.deal true b s), some (.val (.int form)), none, some (.val (.int i)), none]) (m := 4) (Po := fun x => x ≤ 10 ^ 29) (by decide) (fun _ _ _ => rfl) (fun _ _ _ => rfl) (fun _ _ => rfl) (fun _ _ _ _ => rfl) (fun _ _ => rfl) ?_ ?_ ?_
          · simp_arith!
            refine call_any (i := 0) h10 rfl h2 (by decide) (by decide) fun j b3 s3 e3 h3 j0 j1 => ?_
            simp_arith!
            exact ⟨_, _, _, rfl, ⟨e3.trans (e2.trans e1), h3⟩, by omega, by omega⟩
          · intro b3 s3 d h3
            simp_arith!
            refine call_any (i := 0) h10 rfl h3.2 (by omega) (Nat.lt_of_lt_of_le (big_log (by omega) (Int.le_trans i2 (by decide))) (by decide)) fun j b4 s4 e4 h4 j0 j1 => ?_
            simp_arith!
            exact ⟨_, _, _, rfl, ⟨e4.trans h3.1, h4⟩, by omega⟩
          · intro L b3 s3 h3 hl hx
            have ok : EucOk L := ⟨by omega, fun x hx' => Int.le_trans (hx x hx') (by decide)⟩
            simp_arith! [call1o (h13 ok)]
            exact drw_end h3.1 h3.2 (eucD_row ok)
end
end Rx

/-! RxF8 -/
/-! RxF8: whether any value is a falling row, in the law's words. -/
set_option linter.all false
set_option Elab.async false
set_option maxRecDepth 100000
set_option maxHeartbeats 1000000
namespace Rx
local macro_rules
  | `(tactic| simp!) => `(tactic| simp only [slot_z, slot_1, slot_2, slot_3, slot_4, slot_5, slot_6, slot_7, slot_8, slot_9, slot_10, slot_11, slot_12, q_var, q_frz, q_cst, q_op, q_call, q_callK, q_tup, q_lst, q_ite, q_and, q_or, q_not, q_chain, q_pop, q_exAt, es_nil, es_cons, ks_nil, ks_cons, t_and, t_or, t_not, t_op, t_var, t_call, t_callK, t_chain, t_cst, c_yes, c_one, b_ok, b_exc, o_ok, o_exc, of_some, g_val, g_new, g_ref, gs_nil, gs_cons, k_val, k_new, tk_val, tk_new, tk_deal, gv_val, gv_new, gv_ref, m_val, m_new, p_nm, p_tp, p_tpp, putD_nil, putD_cons, putM_nil, putM_cons, put_def, free_def, ts_nil, ts_cons, t1_ok, t1_exc, tr_bl, tr_non, ss_nil, ss_cons, s_asg, s_par, s_aug, s_app, s_ext, s_pop, s_expr, s_doc, s_ret, s_retN, s_pass, s_brk, s_cnt, s_ite, s_raise, s_setix, s_ins, i_seq, i_rg1, i_rg2, i_enum, i_zip, i_rev, sq_lst, sq_tup, wl_vs, v_add, v_sub, v_neg, v_lt, v_le, v_gt, v_ge, v_isN, v_notN, v_isB, v_notB, v_rev, v_lenL, v_lenT, v_abs, v_int, v_listL, v_listT, v_tupleL, v_tupleT, v_max2, v_min2, v_isa, Option.bind_some, List.set_cons_zero, List.set_cons_succ, List.length_cons, List.length_nil, if_true, if_false, reduceIte, Bool.false_eq_true, decide_true, decide_false, isOwn])
  | `(tactic| simp! [$ls,*]) => `(tactic| simp only [slot_z, slot_1, slot_2, slot_3, slot_4, slot_5, slot_6, slot_7, slot_8, slot_9, slot_10, slot_11, slot_12, q_var, q_frz, q_cst, q_op, q_call, q_callK, q_tup, q_lst, q_ite, q_and, q_or, q_not, q_chain, q_pop, q_exAt, es_nil, es_cons, ks_nil, ks_cons, t_and, t_or, t_not, t_op, t_var, t_call, t_callK, t_chain, t_cst, c_yes, c_one, b_ok, b_exc, o_ok, o_exc, of_some, g_val, g_new, g_ref, gs_nil, gs_cons, k_val, k_new, tk_val, tk_new, tk_deal, gv_val, gv_new, gv_ref, m_val, m_new, p_nm, p_tp, p_tpp, putD_nil, putD_cons, putM_nil, putM_cons, put_def, free_def, ts_nil, ts_cons, t1_ok, t1_exc, tr_bl, tr_non, ss_nil, ss_cons, s_asg, s_par, s_aug, s_app, s_ext, s_pop, s_expr, s_doc, s_ret, s_retN, s_pass, s_brk, s_cnt, s_ite, s_raise, s_setix, s_ins, i_seq, i_rg1, i_rg2, i_enum, i_zip, i_rev, sq_lst, sq_tup, wl_vs, v_add, v_sub, v_neg, v_lt, v_le, v_gt, v_ge, v_isN, v_notN, v_isB, v_notB, v_rev, v_lenL, v_lenT, v_abs, v_int, v_listL, v_listT, v_tupleL, v_tupleT, v_max2, v_min2, v_isa, Option.bind_some, List.set_cons_zero, List.set_cons_succ, List.length_cons, List.length_nil, if_true, if_false, reduceIte, Bool.false_eq_true, decide_true, decide_false, isOwn, $ls,*])
local macro_rules
  | `(tactic| simp_arith!) => `(tactic| simp (config := { dsimp := false, implicitDefEqProofs := false }) only [↓wp_bind, ↓wp_o, ↓wo_cons, ↓wp_test1, ↓wp_ok, ↓w_op, ↓w_call, ↓w_callK, ↓w_tup, ↓w_lst, ↓w_ite, ↓w_es_nil, ↓w_es, ↓w_ks_nil, ↓w_ks, keptQ_val, keptQ_new, ↓w_and, ↓w_or, ↓w_not, ↓w_top, ↓w_tvar, ↓w_tcall, ↓w_tcallK, ↓w_teqR, ↓w_asg, ↓w_ret, ↓w_site, ↓w_expr, ↓w_par, ↓w_eqR, slot_z, slot_1, slot_2, slot_3, slot_4, slot_5, slot_6, slot_7, slot_8, slot_9, slot_10, slot_11, slot_12, q_var, q_frz, q_cst, q_op, q_call, q_callK, q_tup, q_lst, q_ite, q_and, q_or, q_not, q_chain, q_pop, q_exAt, es_nil, es_cons, ks_nil, ks_cons, t_and, t_or, t_not, t_op, t_var, t_call, t_callK, t_chain, t_cst, t_eqR, q_eqR, c_yes, c_one, b_ok, b_exc, o_ok, o_exc, of_some, g_val, g_new, g_ref, gs_nil, gs_cons, k_val, k_new, tk_val, tk_new, tk_deal, gv_val, gv_new, gv_ref, m_val, m_new, p_nm, p_tp, p_tpp, putD_nil, putD_cons, putM_nil, putM_cons, put_def, free_def, ts_nil, ts_cons, t1_ok, t1_exc, tr_bl, tr_non, ss_nil, s_asg, s_par, s_aug, s_app, s_ext, s_pop, s_expr, s_doc, s_ret, s_retN, s_pass, s_brk, s_cnt, s_ite, s_raise, s_setix, s_ins, i_seq, i_rg1, i_rg2, i_enum, i_zip, i_rev, sq_lst, sq_tup, wl_vs, v_add, v_sub, v_neg, v_lt, v_le, v_gt, v_ge, v_isN, v_notN, v_isB, v_notB, v_rev, v_lenL, v_lenT, v_abs, v_int, v_listL, v_listT, v_tupleL, v_tupleT, v_max2, v_min2, v_isa, Option.bind_some, List.set_cons_zero, List.set_cons_succ, List.length_cons, List.length_nil, if_true, if_false, reduceIte, Bool.false_eq_true, Bool.true_eq_false, decide_true, decide_false, isOwn, wp_ok, wp_exc, wp_bind, wp_o, wp_ite, wo_ite, wo_nx, wo_rt, wo_bk, wo_ct, wo_exc, wo_cons, wp_test1, tst_mk, v_eqI, v_neI, decide_eq_true_eq, Bool.not_eq_true', decide_eq_false_iff_not, Nat.reduceAdd, Nat.reduceLT, Nat.reduceLeDiff, Nat.zero_add, and_true, true_and])
  | `(tactic| simp_arith! [$ls,*]) => `(tactic| simp (config := { dsimp := false, implicitDefEqProofs := false }) only [↓wp_bind, ↓wp_o, ↓wo_cons, ↓wp_test1, ↓wp_ok, ↓w_op, ↓w_call, ↓w_callK, ↓w_tup, ↓w_lst, ↓w_ite, ↓w_es_nil, ↓w_es, ↓w_ks_nil, ↓w_ks, keptQ_val, keptQ_new, ↓w_and, ↓w_or, ↓w_not, ↓w_top, ↓w_tvar, ↓w_tcall, ↓w_tcallK, ↓w_teqR, ↓w_asg, ↓w_ret, ↓w_site, ↓w_expr, ↓w_par, ↓w_eqR, slot_z, slot_1, slot_2, slot_3, slot_4, slot_5, slot_6, slot_7, slot_8, slot_9, slot_10, slot_11, slot_12, q_var, q_frz, q_cst, q_op, q_call, q_callK, q_tup, q_lst, q_ite, q_and, q_or, q_not, q_chain, q_pop, q_exAt, es_nil, es_cons, ks_nil, ks_cons, t_and, t_or, t_not, t_op, t_var, t_call, t_callK, t_chain, t_cst, t_eqR, q_eqR, c_yes, c_one, b_ok, b_exc, o_ok, o_exc, of_some, g_val, g_new, g_ref, gs_nil, gs_cons, k_val, k_new, tk_val, tk_new, tk_deal, gv_val, gv_new, gv_ref, m_val, m_new, p_nm, p_tp, p_tpp, putD_nil, putD_cons, putM_nil, putM_cons, put_def, free_def, ts_nil, ts_cons, t1_ok, t1_exc, tr_bl, tr_non, ss_nil, s_asg, s_par, s_aug, s_app, s_ext, s_pop, s_expr, s_doc, s_ret, s_retN, s_pass, s_brk, s_cnt, s_ite, s_raise, s_setix, s_ins, i_seq, i_rg1, i_rg2, i_enum, i_zip, i_rev, sq_lst, sq_tup, wl_vs, v_add, v_sub, v_neg, v_lt, v_le, v_gt, v_ge, v_isN, v_notN, v_isB, v_notB, v_rev, v_lenL, v_lenT, v_abs, v_int, v_listL, v_listT, v_tupleL, v_tupleT, v_max2, v_min2, v_isa, Option.bind_some, List.set_cons_zero, List.set_cons_succ, List.length_cons, List.length_nil, if_true, if_false, reduceIte, Bool.false_eq_true, Bool.true_eq_false, decide_true, decide_false, isOwn, wp_ok, wp_exc, wp_bind, wp_o, wp_ite, wo_ite, wo_nx, wo_rt, wo_bk, wo_ct, wo_exc, wo_cons, wp_test1, tst_mk, v_eqI, v_neI, decide_eq_true_eq, Bool.not_eq_true', decide_eq_false_iff_not, Nat.reduceAdd, Nat.reduceLT, Nat.reduceLeDiff, Nat.zero_add, and_true, true_and, $ls,*])
mutual
theorem flat_mono : ∀ (d : D) {n m : Nat}, n ≤ m → D.flat n d = true → D.flat m d = true
  | .non, n, m, _, _ => by cases m <;> rfl
  | .bl b, n, m, _, _ => by cases m <;> rfl
  | .int i, n, m, _, _ => by cases m <;> rfl
  | .str x, n, m, _, h => by cases n <;> cases m <;> exact h
  | .tup xs, 0, m, _, h => by cases h
  | .tup xs, n + 1, 0, l, _ => by omega
  | .tup xs, n + 1, m + 1, l, h => flats_mono xs (Nat.le_of_succ_le_succ l) h
  | .lst xs, 0, m, _, h => by cases h
  | .lst xs, n + 1, 0, l, _ => by omega
  | .lst xs, n + 1, m + 1, l, h => flats_mono xs (Nat.le_of_succ_le_succ l) h
  | .ins c xs, n, m, _, h => by cases n <;> cases h
theorem flats_mono : ∀ (xs : List D) {n m : Nat}, n ≤ m → D.flats n xs = true → D.flats m xs = true
  | [], n, m, _, _ => by cases m <;> rfl
  | x :: xs, n, m, l, h => by
    simp only [D.flats, Bool.and_eq_true] at h ⊢
    exact ⟨flat_mono x l h.1, flats_mono xs l h.2⟩
end
theorem flats_mem {n : Nat} : ∀ {xs : List D}, D.flats n xs = true → ∀ x ∈ xs, D.flat n x = true
  | [], _, x, hx => by cases hx
  | y :: xs, h, x, hx => by
    simp only [D.flats, Bool.and_eq_true] at h
    rcases List.mem_cons.mp hx with rfl | hx
    · exact h.1
    · exact flats_mem h.2 x hx
theorem flats_of {n : Nat} : ∀ {xs : List D}, (∀ x ∈ xs, D.flat n x = true) → D.flats n xs = true
  | [], _ => by cases n <;> rfl
  | y :: xs, h => by
    simp only [D.flats, Bool.and_eq_true]
    exact ⟨h y (List.mem_cons_self ..), flats_of fun x hx => h x (List.mem_cons_of_mem _ hx)⟩
theorem ne_nilD {xs : List D} (h : D.flats 59 xs = true) : evalOp .ne [.lst xs, .lst []] = some (.val (.bl (!xs.isEmpty))) := by
  rw [v_ne]
  have : D.flat 60 (.lst xs) = true := h
  rw [this]
  cases xs <;> rfl
theorem ne_nilT {xs : List D} (h : D.flats 59 xs = true) : evalOp .ne [.tup xs, .tup []] = some (.val (.bl (!xs.isEmpty))) := by
  rw [v_ne]
  have : D.flat 60 (.tup xs) = true := h
  rw [this]
  cases xs <;> rfl
/-- what a number that is no step is -/
def notPos : D → Bool
  | d => !posNum d
theorem two_run {xs : List D} (h : xs.length = 2) : isRun (.tup xs) = (xs.filter notPos).isEmpty := by
  simp only [isRun, h, decide_true, Bool.true_and]
  clear h
  induction xs with
  | nil => rfl
  | cons x xs ih =>
    rw [List.all_cons, List.filter_cons, ih]
    cases e : posNum x <;> simp [notPos, e]
theorem ixR (q : Int × Int) : evalOp .ix [runD q, .int 0] = some (.val (.int q.1)) := ix0 ..
theorem ixR1 (q : Int × Int) : evalOp .ix [runD q, .int 1] = some (.val (.int q.2)) := ix1 ..
/-- .. and flat -/
structure Mild2 (d : D) : Prop where
  m : Mild d
  flat : D.flat 50 d = true
section
variable {r : Fs}
theorem f_law_is_number (d : D) : denF r 1 1 B__law_is_number [.val d] = .ok (.val (.bl (isNum d))) [.val d] := by
  refine fn_is (ds := [d]) rfl ?_
  unfold B__law_is_number
  cases d <;> (simp only [List.map_cons, List.map_nil, List.cons_append, List.nil_append, Nat.sub_self, List.replicate_zero]; simp_arith! [isa, isNum]) <;> first | (refine ⟨rfl, by simp⟩) | simp
theorem isFall_ds {ds : List D} {e : Int} (h : ds.all isRun = false) : isFall (.tup [.tup ds, .int e]) = false := by
  unfold isFall
  dsimp only
  rw [runsOf_all] at h
  cases hr : runsOf ds with
  | none => simp
  | some rs => rw [hr] at h; cases h
theorem all_take {p : D → Bool} {ds : List D} (h : ∀ (k : Nat) (x : D), ds[k]? = some x → p x = true) : ds.all p = true := by
  rw [List.all_eq_true]
  intro x hx
  obtain ⟨k, hk⟩ := List.mem_iff_getElem?.mp hx
  exact h k x hk
theorem f_law_is_falling (h15 : ∀ d, r 15 [.val d] = .ok (.val (.bl (isNum d))) [.val d]) (h12 : ∀ {rs : List (Int × Int)} {e n : Int}, RunsOk rs → 0 ≤ e → r 12 [.val (rowD rs e), .val (.int n)] = .ok (.val (.bl (inF rs e 0 n))) [.val (rowD rs e), .val (.int n)])
    {d : D} (m2 : Mild2 d) : denF r 1 5 B__law_is_falling [.val d] = .ok (.val (.bl (isFall d))) [.val d] := by
  refine fn_is (ds := [d]) rfl ?_
  unfold B__law_is_falling
  simp only [List.map_cons, List.map_nil, List.cons_append, List.nil_append, List.replicate_succ, List.replicate_zero]
  have hno : isTup 2 d = false → isFall d = false := fun h => by
    unfold isFall
    split
    · simp [isTup] at h
    · rfl
  cases d with
  | tup xs =>
    by_cases hx : xs.length = 2
    · match xs, hx with
      | [a, b], _ =>
        cases a with
        | tup ds =>
          cases hb : isNum b with
          | false =>
            simp_arith! [isa, Bool.not_true, ix0, ix1, call1 (h15 b), hb, Bool.not_false]
            have : isFall (.tup [.tup ds, b]) = false := by
              cases b <;> simp [isFall, isNum] at hb ⊢
              intro h0; omega
            simp [this]
          | true =>
            cases b with
            | int e =>
              have he : 0 ≤ e := by simpa [isNum] using hb
              have hl : ds.length ≤ 2000 := m2.m.few ds _ rfl
              simp_arith! [isa, Bool.not_true, ix0, ix1, call1 (h15 _), hb, s_for]
              rw [if_neg (by decide)]
              have m := m2.m
              have hfl : D.flats 59 ds = true := flats_mono ds (n := 48) (by decide) (by
                have := m2.flat
                simp only [D.flat, D.flats, Bool.and_eq_true] at this
                exact this.1)
              generalize hD : D.tup [.tup ds, .int e] = V at *
              have vx0 : evalOp .ix [V, .int 0] = some (.val (.tup ds)) := by rw [← hD]; exact ix0 ..
              have vx1 : evalOp .ix [V, .int 1] = some (.val (.int e)) := by rw [← hD]; exact ix1 ..
              refine for_wp (w := .vs ds) (ds := ds) (fun k env => (∃ l1, Vl l1 ∧ env = [some (.val V), l1, none, none, none]) ∧ ∀ (j : Nat) (x : D), j < k → ds[j]? = some x → isRun x = true) (fun k e _ => rfl) ?_ ?_ (ds.length + 1) 0 _ ⟨⟨none, .inl rfl, rfl⟩, fun j x h => by omega⟩ (Nat.zero_le _) (by omega)
              · rintro k env x ⟨⟨l1, v1, rfl⟩, hall⟩ hk
                refine ⟨[some (.val V), some (.val x), none, none, none], by rcases v1 with rfl | ⟨_, rfl⟩ <;> rfl, ?_⟩
                have hmem : x ∈ ds := List.mem_of_getElem? hk
                have hfx := flats_mem hfl x hmem
                have bad : isRun x = false → isFall V = false := fun h => by
                  rw [← hD]
                  refine isFall_ds ?_
                  cases e : ds.all isRun with
                  | false => rfl
                  | true => rw [List.all_eq_true] at e; rw [e x hmem] at h; cases h
                unfold B__law_is_falling_1
                cases x with
                | tup ys =>
                  by_cases hy : (ys.length : Int) = 2
                  · have hy' : ys.length = 2 := by omega
                    have hq := q_fm (r := r) (t := .nm 4) (own := [4]) (it := .seq (.var 1)) (c := .one (.or (.not (.call 15 (.cons (.frz 4) .nil))) (.op .eq (.cons (.var 4) (.cons (.cst (.int 0)) .nil))))) (e := .frz 4) (env := [some (.val V), some (.val (.tup ys)), none, none, none]) (env1 := [some (.val V), some (.val (.tup ys)), none, none, none]) (ds := ys)
                      notPos (fun x => x) (fun x => [some (.val V), some (.val (.tup ys)), none, none, some (.val x)]) (by simp!) rfl (by rw [hy']; decide) (fun d _ => rfl) (fun x _ => by
                        simp! [call1 (h15 x)]
                        cases x with
                        | int i =>
                          by_cases hi : 0 ≤ i
                          · rw [show isNum (.int i) = true from by simp [isNum, hi], show notPos (.int i) = decide (i = 0) from by by_cases h0 : i = 0 <;> simp [notPos, posNum, h0] <;> omega]
                            rfl
                          · rw [show isNum (.int i) = false from by simp [isNum, hi], show notPos (.int i) = true from by simp [notPos, posNum]; omega]
                            rfl
                        | _ => rfl) (fun d _ _ => ⟨_, rfl, rfl⟩) (fun d _ => rfl)
                    rw [List.map_id'] at hq
                    have hff : D.flats 59 (ys.filter notPos) = true := by
                      refine flats_of fun z hz => ?_
                      have h2 : D.flats 58 ys = true := hfx
                      exact flat_mono z (by decide) (flats_mem h2 z (List.mem_filter.mp hz).1)
                    simp_arith! [back, wipe, List.getElem?_cons_succ, List.getElem?_cons_zero, Option.join_none, Option.join_some, List.cons_append, List.nil_append, if_pos (show 0 ≤ maxLen by decide), if_pos (show 1 ≤ maxLen by decide), if_pos (show 2 ≤ maxLen by decide), if_pos (show 3 ≤ maxLen by decide), isa, Bool.not_true, hy, hq, ne_nilD hff, ← two_run hy']
                    cases hr : isRun (.tup ys) with
                    | false =>
                      rw [if_pos rfl, bad hr]
                    | true =>
                      rw [if_neg (by decide)]
                      refine ⟨⟨_, .inr ⟨_, rfl⟩, rfl⟩, fun j x hj hx => ?_⟩
                      by_cases c : j = k
                      · subst c
                        rw [hk] at hx; cases hx; exact hr
                      · exact hall j x (by omega) hx
                  · simp_arith! [back, wipe, List.getElem?_cons_succ, List.getElem?_cons_zero, Option.join_none, Option.join_some, List.cons_append, List.nil_append, if_pos (show 0 ≤ maxLen by decide), if_pos (show 1 ≤ maxLen by decide), if_pos (show 2 ≤ maxLen by decide), if_pos (show 3 ≤ maxLen by decide), isa, Bool.not_true, hy]
                    have : isRun (.tup ys) = false := by simp only [isRun]; rw [decide_eq_false (by omega)]; rfl
                    rw [bad this]
                | _ =>
                  simp_arith! [back, wipe, List.getElem?_cons_succ, List.getElem?_cons_zero, Option.join_none, Option.join_some, List.cons_append, List.nil_append, if_pos (show 0 ≤ maxLen by decide), if_pos (show 1 ≤ maxLen by decide), if_pos (show 2 ≤ maxLen by decide), if_pos (show 3 ≤ maxLen by decide), isa, Bool.not_false]
                  rw [bad rfl]
              · rintro env ⟨⟨l1, v1, rfl⟩, hall⟩
                have hal : ds.all isRun = true := all_take fun k x hx => hall k x (List.getElem?_eq_some_iff.mp hx).1 hx
                have hrs := hal
                rw [runsOf_all] at hrs
                obtain ⟨rs, hrs⟩ := Option.isSome_iff_exists.mp hrs
                obtain ⟨rfl, hp⟩ := runsOf_some hrs
                have hV : V = rowD rs e := hD.symm
                have ok : RunsOk rs := (hV ▸ m : Mild (rowD rs e)).ok hp
                unfold B__law_is_falling_1t
                have hfl' : (rs ≠ [] → 0 < e) → isFall V = fallB rs e := fun h => by rw [hV]; exact isFall_row hp he h
                have loop : (rs ≠ [] → 0 < e) → (denS r (.for_ (.tp [2, 1]) (.enum (.op .ix (.cons (.var 0) (.cons (.cst (.int 0)) .nil)))) B__law_is_falling_2) [some (.val V), l1, none, none, none]).wp
                    ⟨fun e => (denSs r B__law_is_falling_2t e).wp ⟨fun _ => False, fun m e => m = .val (.bl (isFall V)) ∧ 1 ≤ List.length e, fun _ => False, fun _ => False, fun _ _ _ => False⟩, fun m e => m = .val (.bl (isFall V)) ∧ 1 ≤ List.length e, fun _ => False, fun _ => False, fun _ _ _ => False⟩ := fun hn => by
                  rw [hfl' hn]
                  simp_arith! [back, wipe, List.getElem?_cons_succ, List.getElem?_cons_zero, Option.join_none, Option.join_some, List.cons_append, List.nil_append, if_pos (show 0 ≤ maxLen by decide), if_pos (show 1 ≤ maxLen by decide), if_pos (show 2 ≤ maxLen by decide), if_pos (show 3 ≤ maxLen by decide), s_for, vx0]
                  refine for_wp (w := .vs (enumL 0 (rs.map runD))) (ds := enumL 0 (rs.map runD)) (fun k env => (∃ l1 l2 l3, Vl l1 ∧ Vl l2 ∧ Vl l3 ∧ env = [some (.val V), l1, l2, l3, none]) ∧ fallB rs e = fallB (rs.drop k) e) (fun k e _ => rfl) ?_ ?_ ((enumL 0 (rs.map runD)).length + 1) 0 _ ⟨⟨l1, none, none, v1, .inl rfl, .inl rfl, rfl⟩, rfl⟩ (Nat.zero_le _) (by omega)
                  · rintro k env x ⟨⟨l1, l2, l3, w1, w2, w3, rfl⟩, hfk⟩ hk
                    rw [enumL_get, List.getElem?_map] at hk
                    obtain ⟨y, hy, rfl⟩ := Option.map_eq_some_iff.mp hk
                    obtain ⟨⟨s, t⟩, hst, rfl⟩ := Option.map_eq_some_iff.mp hy
                    rw [Nat.zero_add]
                    refine ⟨[some (.val V), some (.val (runD (s, t))), some (.val (.int k)), l3, none], by rcases w1 with rfl | ⟨_, rfl⟩ <;> rcases w2 with rfl | ⟨_, rfl⟩ <;> rfl, ?_⟩
                    have hkl : k < rs.length := (List.getElem?_eq_some_iff.mp hst).1
                    have e1 : ((k : Int) + 1) = ((k + 1 : Nat) : Int) := by omega
                    have hbeh : (((k + 1 : Nat) : Int) < ((rs.map runD).length : Int) ∧ ∃ q, rs[k + 1]? = some q ∧ evalOp .ix [.tup (rs.map runD), .int ((k + 1 : Nat) : Int)] = some (.val (runD q)) ∧ hdR (rs.drop (k + 1)) e = q.1) ∨ (¬ ((k + 1 : Nat) : Int) < ((rs.map runD).length : Int) ∧ hdR (rs.drop (k + 1)) e = e) := by
                      rw [List.length_map]
                      by_cases c : k + 1 < rs.length
                      · refine .inl ⟨by omega, rs[k + 1], List.getElem?_eq_getElem c, ?_, ?_⟩
                        · rw [v_ixT]
                          have : place (rs.map runD).length ((k + 1 : Nat) : Int) = some (k + 1) := by unfold place; rw [if_pos (by omega), if_pos (by rw [List.length_map]; omega), Int.toNat_natCast]
                          rw [this]
                          simp [List.getElem?_eq_getElem c]
                        · rw [drop_at (List.getElem?_eq_getElem c)]; rfl
                      · refine .inr ⟨by omega, ?_⟩
                        rw [List.drop_eq_nil_of_le (by omega)]; rfl
                    have hin : r 12 [.val (.tup [.tup ((rs.drop (k + 1)).map runD), .int e]), .val (.int s)] = .ok (.val (.bl (inF (rs.drop (k + 1)) e 0 s))) [.val (.tup [.tup ((rs.drop (k + 1)).map runD), .int e]), .val (.int s)] := h12 (n := s) (ok.drop (k + 1)) he
                    have hfk' : fallB rs e = (decide (hdR (rs.drop (k + 1)) e < s) && inF (rs.drop (k + 1)) e 0 s && fallB (rs.drop (k + 1)) e) := by
                      rw [hfk, drop_at hst]; rfl
                    unfold B__law_is_falling_2
                    rcases hbeh with ⟨b1, q, b2, b3, b4⟩ | ⟨b1, b4⟩
                    · rcases w3 with rfl | ⟨_, rfl⟩ <;>
                      · simp_arith! [back, wipe, List.getElem?_cons_succ, List.getElem?_cons_zero, Option.join_none, Option.join_some, List.cons_append, List.nil_append, if_pos (show 0 ≤ maxLen by decide), if_pos (show 1 ≤ maxLen by decide), if_pos (show 2 ≤ maxLen by decide), if_pos (show 3 ≤ maxLen by decide), vx0, vx1, e1, b1, b3, ixR, v_sl10T, cutN, ← List.map_drop, call2 hin]
                        rw [hfk', b4]
                        by_cases cs : s ≤ q.1
                        · rw [if_pos cs, decide_eq_false (by omega)]
                          rfl
                        · rw [if_neg cs, decide_eq_true (by omega)]
                          cases hi : inF (rs.drop (k + 1)) e 0 s with
                          | false => simp_arith! [back, wipe, List.getElem?_cons_succ, List.getElem?_cons_zero, Option.join_none, Option.join_some, List.cons_append, List.nil_append, if_pos (show 0 ≤ maxLen by decide), if_pos (show 1 ≤ maxLen by decide), if_pos (show 2 ≤ maxLen by decide), if_pos (show 3 ≤ maxLen by decide), hi, Bool.not_false, Bool.and_false, Bool.false_and, Bool.true_and]
                          | true =>
                            rw [if_neg (by decide)]
                            exact ⟨⟨_, _, _, .inr ⟨_, rfl⟩, .inr ⟨_, rfl⟩, .inr ⟨_, rfl⟩, rfl⟩, by simp⟩
                    · rcases w3 with rfl | ⟨_, rfl⟩ <;>
                      · simp_arith! [back, wipe, List.getElem?_cons_succ, List.getElem?_cons_zero, Option.join_none, Option.join_some, List.cons_append, List.nil_append, if_pos (show 0 ≤ maxLen by decide), if_pos (show 1 ≤ maxLen by decide), if_pos (show 2 ≤ maxLen by decide), if_pos (show 3 ≤ maxLen by decide), vx0, vx1, e1, b1, ixR, v_sl10T, cutN, ← List.map_drop, call2 hin]
                        rw [hfk', b4]
                        by_cases cs : s ≤ e
                        · rw [if_pos cs, decide_eq_false (by omega)]
                          rfl
                        · rw [if_neg cs, decide_eq_true (by omega)]
                          cases hi : inF (rs.drop (k + 1)) e 0 s with
                          | false => simp_arith! [back, wipe, List.getElem?_cons_succ, List.getElem?_cons_zero, Option.join_none, Option.join_some, List.cons_append, List.nil_append, if_pos (show 0 ≤ maxLen by decide), if_pos (show 1 ≤ maxLen by decide), if_pos (show 2 ≤ maxLen by decide), if_pos (show 3 ≤ maxLen by decide), hi, Bool.not_false, Bool.and_false, Bool.false_and, Bool.true_and]
                          | true =>
                            rw [if_neg (by decide)]
                            exact ⟨⟨_, _, _, .inr ⟨_, rfl⟩, .inr ⟨_, rfl⟩, .inr ⟨_, rfl⟩, rfl⟩, by simp⟩
                  · rintro env ⟨⟨l1, l2, l3, w1, w2, w3, rfl⟩, hfk⟩
                    unfold B__law_is_falling_2t
                    simp_arith! [back, wipe, List.getElem?_cons_succ, List.getElem?_cons_zero, Option.join_none, Option.join_some, List.cons_append, List.nil_append, if_pos (show 0 ≤ maxLen by decide), if_pos (show 1 ≤ maxLen by decide), if_pos (show 2 ≤ maxLen by decide), if_pos (show 3 ≤ maxLen by decide)]
                    rw [enumL_len, List.length_map, List.drop_length] at hfk
                    rw [hfk]; rfl
                simp_arith! [back, wipe, List.getElem?_cons_succ, List.getElem?_cons_zero, Option.join_none, Option.join_some, List.cons_append, List.nil_append, if_pos (show 0 ≤ maxLen by decide), if_pos (show 1 ≤ maxLen by decide), if_pos (show 2 ≤ maxLen by decide), if_pos (show 3 ≤ maxLen by decide), vx0, vx1, ne_nilT hfl]
                by_cases c : rs = []
                · subst c
                  rw [if_neg (by simp)]
                  exact loop fun h => (h rfl).elim
                · rw [if_pos (by simpa using c)]
                  by_cases c0 : e = 0
                  · rw [if_pos c0]
                    have : isFall V = false := by
                      rw [hV]
                      unfold isFall rowD
                      dsimp only
                      rw [runsOf_map hp]
                      dsimp only
                      cases rs with
                      | nil => exact (c rfl).elim
                      | cons p rs => simp [c0]
                    rw [this]
                  · rw [if_neg c0]
                    exact loop fun _ => by omega
            | _ => simp [isNum] at hb
        | _ =>
          simp_arith! [isa, Bool.not_true, Bool.not_false, ix0, ix1]
          simp [isFall]
    · have h2 : ¬ (xs.length : Int) = 2 := by omega
      have : isFall (.tup xs) = false := hno (by simp [isTup, h2])
      simp_arith! [isa, Bool.not_true, h2]
      rw [this]
  | _ =>
    simp_arith! [isa, Bool.not_false]
    simp [isFall]
end
end Rx

/-! RxF9 -/
/-! RxF9: values near a row. -/
set_option linter.all false
set_option Elab.async false
set_option maxRecDepth 100000
set_option maxHeartbeats 1000000
namespace Rx
local macro_rules
  | `(tactic| simp!) => `(tactic| simp only [slot_z, slot_1, slot_2, slot_3, slot_4, slot_5, slot_6, slot_7, slot_8, slot_9, slot_10, slot_11, slot_12, q_var, q_frz, q_cst, q_op, q_call, q_callK, q_tup, q_lst, q_ite, q_and, q_or, q_not, q_chain, q_pop, q_exAt, es_nil, es_cons, ks_nil, ks_cons, t_and, t_or, t_not, t_op, t_var, t_call, t_callK, t_chain, t_cst, c_yes, c_one, b_ok, b_exc, o_ok, o_exc, of_some, g_val, g_new, g_ref, gs_nil, gs_cons, k_val, k_new, tk_val, tk_new, tk_deal, gv_val, gv_new, gv_ref, m_val, m_new, p_nm, p_tp, p_tpp, putD_nil, putD_cons, putM_nil, putM_cons, put_def, free_def, ts_nil, ts_cons, t1_ok, t1_exc, tr_bl, tr_non, ss_nil, ss_cons, s_asg, s_par, s_aug, s_app, s_ext, s_pop, s_expr, s_doc, s_ret, s_retN, s_pass, s_brk, s_cnt, s_ite, s_raise, s_setix, s_ins, i_seq, i_rg1, i_rg2, i_enum, i_zip, i_rev, sq_lst, sq_tup, wl_vs, v_add, v_sub, v_neg, v_lt, v_le, v_gt, v_ge, v_isN, v_notN, v_isB, v_notB, v_rev, v_lenL, v_lenT, v_abs, v_int, v_listL, v_listT, v_tupleL, v_tupleT, v_max2, v_min2, v_isa, Option.bind_some, List.set_cons_zero, List.set_cons_succ, List.length_cons, List.length_nil, if_true, if_false, reduceIte, Bool.false_eq_true, decide_true, decide_false, isOwn])
  | `(tactic| simp! [$ls,*]) => `(tactic| simp only [slot_z, slot_1, slot_2, slot_3, slot_4, slot_5, slot_6, slot_7, slot_8, slot_9, slot_10, slot_11, slot_12, q_var, q_frz, q_cst, q_op, q_call, q_callK, q_tup, q_lst, q_ite, q_and, q_or, q_not, q_chain, q_pop, q_exAt, es_nil, es_cons, ks_nil, ks_cons, t_and, t_or, t_not, t_op, t_var, t_call, t_callK, t_chain, t_cst, c_yes, c_one, b_ok, b_exc, o_ok, o_exc, of_some, g_val, g_new, g_ref, gs_nil, gs_cons, k_val, k_new, tk_val, tk_new, tk_deal, gv_val, gv_new, gv_ref, m_val, m_new, p_nm, p_tp, p_tpp, putD_nil, putD_cons, putM_nil, putM_cons, put_def, free_def, ts_nil, ts_cons, t1_ok, t1_exc, tr_bl, tr_non, ss_nil, ss_cons, s_asg, s_par, s_aug, s_app, s_ext, s_pop, s_expr, s_doc, s_ret, s_retN, s_pass, s_brk, s_cnt, s_ite, s_raise, s_setix, s_ins, i_seq, i_rg1, i_rg2, i_enum, i_zip, i_rev, sq_lst, sq_tup, wl_vs, v_add, v_sub, v_neg, v_lt, v_le, v_gt, v_ge, v_isN, v_notN, v_isB, v_notB, v_rev, v_lenL, v_lenT, v_abs, v_int, v_listL, v_listT, v_tupleL, v_tupleT, v_max2, v_min2, v_isa, Option.bind_some, List.set_cons_zero, List.set_cons_succ, List.length_cons, List.length_nil, if_true, if_false, reduceIte, Bool.false_eq_true, decide_true, decide_false, isOwn, $ls,*])
local macro_rules
  | `(tactic| simp_arith!) => `(tactic| simp (config := { dsimp := false, implicitDefEqProofs := false }) only [↓wp_bind, ↓wp_o, ↓wo_cons, ↓wp_test1, ↓wp_ok, ↓w_op, ↓w_call, ↓w_callK, ↓w_tup, ↓w_lst, ↓w_ite, ↓w_es_nil, ↓w_es, ↓w_ks_nil, ↓w_ks, keptQ_val, keptQ_new, ↓w_and, ↓w_or, ↓w_not, ↓w_top, ↓w_tvar, ↓w_tcall, ↓w_tcallK, ↓w_teqR, ↓w_asg, ↓w_ret, ↓w_site, ↓w_expr, ↓w_par, ↓w_eqR, slot_z, slot_1, slot_2, slot_3, slot_4, slot_5, slot_6, slot_7, slot_8, slot_9, slot_10, slot_11, slot_12, q_var, q_frz, q_cst, q_op, q_call, q_callK, q_tup, q_lst, q_ite, q_and, q_or, q_not, q_chain, q_pop, q_exAt, es_nil, es_cons, ks_nil, ks_cons, t_and, t_or, t_not, t_op, t_var, t_call, t_callK, t_chain, t_cst, t_eqR, q_eqR, c_yes, c_one, b_ok, b_exc, o_ok, o_exc, of_some, g_val, g_new, g_ref, gs_nil, gs_cons, k_val, k_new, tk_val, tk_new, tk_deal, gv_val, gv_new, gv_ref, m_val, m_new, p_nm, p_tp, p_tpp, putD_nil, putD_cons, putM_nil, putM_cons, put_def, free_def, ts_nil, ts_cons, t1_ok, t1_exc, tr_bl, tr_non, ss_nil, s_asg, s_par, s_aug, s_app, s_ext, s_pop, s_expr, s_doc, s_ret, s_retN, s_pass, s_brk, s_cnt, s_ite, s_raise, s_setix, s_ins, i_seq, i_rg1, i_rg2, i_enum, i_zip, i_rev, sq_lst, sq_tup, wl_vs, v_add, v_sub, v_neg, v_lt, v_le, v_gt, v_ge, v_isN, v_notN, v_isB, v_notB, v_rev, v_lenL, v_lenT, v_abs, v_int, v_listL, v_listT, v_tupleL, v_tupleT, v_max2, v_min2, v_isa, Option.bind_some, List.set_cons_zero, List.set_cons_succ, List.length_cons, List.length_nil, if_true, if_false, reduceIte, Bool.false_eq_true, Bool.true_eq_false, decide_true, decide_false, isOwn, wp_ok, wp_exc, wp_bind, wp_o, wp_ite, wo_ite, wo_nx, wo_rt, wo_bk, wo_ct, wo_exc, wo_cons, wp_test1, tst_mk, v_eqI, v_neI, decide_eq_true_eq, Bool.not_eq_true', decide_eq_false_iff_not, Nat.reduceAdd, Nat.reduceLT, Nat.reduceLeDiff, Nat.zero_add, and_true, true_and])
  | `(tactic| simp_arith! [$ls,*]) => `(tactic| simp (config := { dsimp := false, implicitDefEqProofs := false }) only [↓wp_bind, ↓wp_o, ↓wo_cons, ↓wp_test1, ↓wp_ok, ↓w_op, ↓w_call, ↓w_callK, ↓w_tup, ↓w_lst, ↓w_ite, ↓w_es_nil, ↓w_es, ↓w_ks_nil, ↓w_ks, keptQ_val, keptQ_new, ↓w_and, ↓w_or, ↓w_not, ↓w_top, ↓w_tvar, ↓w_tcall, ↓w_tcallK, ↓w_teqR, ↓w_asg, ↓w_ret, ↓w_site, ↓w_expr, ↓w_par, ↓w_eqR, slot_z, slot_1, slot_2, slot_3, slot_4, slot_5, slot_6, slot_7, slot_8, slot_9, slot_10, slot_11, slot_12, q_var, q_frz, q_cst, q_op, q_call, q_callK, q_tup, q_lst, q_ite, q_and, q_or, q_not, q_chain, q_pop, q_exAt, es_nil, es_cons, ks_nil, ks_cons, t_and, t_or, t_not, t_op, t_var, t_call, t_callK, t_chain, t_cst, t_eqR, q_eqR, c_yes, c_one, b_ok, b_exc, o_ok, o_exc, of_some, g_val, g_new, g_ref, gs_nil, gs_cons, k_val, k_new, tk_val, tk_new, tk_deal, gv_val, gv_new, gv_ref, m_val, m_new, p_nm, p_tp, p_tpp, putD_nil, putD_cons, putM_nil, putM_cons, put_def, free_def, ts_nil, ts_cons, t1_ok, t1_exc, tr_bl, tr_non, ss_nil, s_asg, s_par, s_aug, s_app, s_ext, s_pop, s_expr, s_doc, s_ret, s_retN, s_pass, s_brk, s_cnt, s_ite, s_raise, s_setix, s_ins, i_seq, i_rg1, i_rg2, i_enum, i_zip, i_rev, sq_lst, sq_tup, wl_vs, v_add, v_sub, v_neg, v_lt, v_le, v_gt, v_ge, v_isN, v_notN, v_isB, v_notB, v_rev, v_lenL, v_lenT, v_abs, v_int, v_listL, v_listT, v_tupleL, v_tupleT, v_max2, v_min2, v_isa, Option.bind_some, List.set_cons_zero, List.set_cons_succ, List.length_cons, List.length_nil, if_true, if_false, reduceIte, Bool.false_eq_true, Bool.true_eq_false, decide_true, decide_false, isOwn, wp_ok, wp_exc, wp_bind, wp_o, wp_ite, wo_ite, wo_nx, wo_rt, wo_bk, wo_ct, wo_exc, wo_cons, wp_test1, tst_mk, v_eqI, v_neI, decide_eq_true_eq, Bool.not_eq_true', decide_eq_false_iff_not, Nat.reduceAdd, Nat.reduceLT, Nat.reduceLeDiff, Nat.zero_add, and_true, true_and, $ls,*])
/-- a number not far away -/
def Near (x : Int) : Prop := -(8 * bigB) ≤ x ∧ x ≤ 8 * bigB
theorem big_pos : 1000 ≤ bigB := by decide
theorem near_log {x : Int} (h : Near x) : x.natAbs.log2 < 503 := by
  have h1 : (x.natAbs : Int) ≤ ((2 ^ 502 : Nat) : Int) := by
    have : ((2 ^ 502 : Nat) : Int) = 8 * bigB := by decide
    rw [this]
    have := h.1
    have := h.2
    omega
  have h2 := Int.ofNat_le.mp h1
  by_cases c : x.natAbs = 0
  · rw [c]; decide
  · rw [Nat.log2_lt c]
    exact Nat.lt_of_le_of_lt h2 (Nat.pow_lt_pow_right (by decide) (by decide))
theorem eq_nilD {xs : List D} (h : D.flats 59 xs = true) : evalOp .eq [.lst xs, .lst []] = some (.val (.bl xs.isEmpty)) := by
  rw [v_eq]
  have : D.flat 60 (.lst xs) = true := h
  rw [this]
  cases xs <;> rfl
theorem ite_or2 {p q : Prop} [Decidable p] [Decidable q] {A B : Prop} : (if p then A else if q then A else B) = if p ∨ q then A else B := by
  by_cases hp : p
  · rw [if_pos hp, if_pos (.inl hp)]
  · rw [if_neg hp]
    by_cases hq : q
    · rw [if_pos hq, if_pos (.inr hq)]
    · rw [if_neg hq, if_neg (fun h => h.elim hp hq)]
theorem ins_mem {x d : D} {xs : List D} {n : Nat} (h : x ∈ xs.take n ++ [d] ++ xs.drop n) : x = d ∨ x ∈ xs := by
  simp only [List.mem_append, List.mem_singleton] at h
  rcases h with (h | h) | h
  · exact .inr (List.mem_of_mem_take h)
  · exact .inl h
  · exact .inr (List.mem_of_mem_drop h)
theorem q_popAt {r : Fs} {env : Env} (i : Nat) (e : E) : denG r (.popAt i e) false env = (if isOwn i env then (denG r e false env).bind fun p => match p.1.get p.2, slot i p.2 with
    | some (.int k), some (.own io xs) => match place xs.length k with
      | some j => match xs[j]? with
        | some d => if -(2 ^ 60) ≤ k ∧ k < 2 ^ 60 then .ok (.mv (.val d), p.2.set i (some (.own io (xs.eraseIdx j)))) else .stuck
        | none => .stuck
      | none => .stuck
    | _, _ => .stuck
    else .stuck) := denE_popAt r i e env
/-- what may stand among runs -/
structure RunLike (d : D) : Prop where
  flat : D.flat 40 d = true
  mul : ∀ p, runOf d = some p → p.1.natAbs.log2 + p.2.natAbs.log2 < 1000000
theorem runLike_pair {s t : Int} (hs : Near s) (ht : Near t) : RunLike (.tup [.int s, .int t]) := by
  refine ⟨rfl, fun p h => ?_⟩
  obtain ⟨h1, _⟩ := runOf_some h
  have := near_log hs
  have := near_log ht
  obtain ⟨a, b⟩ := p
  simp only [runD, D.tup.injEq, List.cons.injEq, D.int.injEq] at h1
  obtain ⟨rfl, rfl, _⟩ := h1
  dsimp only
  omega
theorem runLike_no {d : D} (h : D.flat 40 d = true) (h2 : runOf d = none) : RunLike d := ⟨h, fun p hp => by rw [h2] at hp; cases hp⟩
theorem runsOf_mem : ∀ {ds : List D} {ps : List (Int × Int)}, runsOf ds = some ps → ∀ p ∈ ps, ∃ d ∈ ds, runOf d = some p
  | [], ps, h, p, hp => by cases h; cases hp
  | d :: ds, ps, h, p, hp => by
    unfold runsOf at h
    cases e1 : runOf d with
    | none => rw [e1] at h; cases h
    | some q =>
      cases e2 : runsOf ds with
      | none => rw [e1, e2] at h; cases h
      | some qs =>
        rw [e1, e2] at h
        cases h
        rcases List.mem_cons.mp hp with rfl | hp
        · exact ⟨d, List.mem_cons_self .., e1⟩
        · obtain ⟨d', h1, h2⟩ := runsOf_mem e2 p hp
          exact ⟨d', List.mem_cons_of_mem _ h1, h2⟩
theorem mild_gen {V : D} (h : ∀ ds l, V = .tup (.tup ds :: l) → ds.length ≤ 2000 ∧ ∀ d ∈ ds, RunLike d) (f : D.flat 50 V = true) : Mild2 V := by
  refine ⟨⟨fun ds l e => (h ds l e).1, fun ds e rs he hr p hp => ?_⟩, f⟩
  obtain ⟨d, h1, h2⟩ := runsOf_mem hr p hp
  exact ((h ds _ he).2 d h1).mul p h2
theorem mild_two {ds : List D} {x : D} (hl : ds.length ≤ 2000) (h : ∀ d ∈ ds, RunLike d) (f : D.flat 40 x = true) : Mild2 (.tup [.tup ds, x]) := by
  refine mild_gen (fun ds' l e => ?_) ?_
  · cases e; exact ⟨hl, h⟩
  · simp only [D.flat, D.flats, Bool.and_eq_true]
    exact ⟨flats_of fun d hd => flat_mono d (by decide) (h d hd).flat, flat_mono x (by decide) f, trivial⟩
theorem RowOk.near {rs : List (Int × Int)} {e : Int} (h : RowOk rs e) {p : Int × Int} (hp : p ∈ rs) : Near p.1 ∧ Near p.2 := by
  obtain ⟨a, b, c, d⟩ := h.runs hp
  have := big_pos
  exact ⟨⟨by omega, by omega⟩, by omega, by omega⟩
theorem RowOk.like {rs : List (Int × Int)} {e : Int} (h : RowOk rs e) : ∀ d ∈ rs.map runD, RunLike d := fun d hd => by
  obtain ⟨p, hp, rfl⟩ := List.mem_map.mp hd
  exact runLike_pair (h.near hp).1 (h.near hp).2
theorem RowOk.flat {rs : List (Int × Int)} {e : Int} (h : RowOk rs e) {n : Nat} (hn : 40 ≤ n) : D.flats n (rs.map runD) = true := flats_of fun d hd => flat_mono d hn (h.like d hd).flat
theorem lb2 {b b' : Nat × List Int} {s s' : Int} {o : Option M} {d : D} {env : Env} (h : b'.1 = b.1) : lentBack [.deal true b s, .val d] (some (.deal true b' s') :: o :: env) = some [.deal true b' s', .val d] := by simp only [lentBack, if_pos h.symm, Option.map_some]
/-- what a def that draws, given d0 too, and tells d is asked for -/
def Drw2 (b : Nat × List Int) (d0 : D) (Po : D → Prop) (m : M) (ms : List M) : Prop := ∃ d b' s', m = .val d ∧ ms = [.deal true b' s', .val d0] ∧ b'.1 = b.1 ∧ Dealt b' s' ∧ Po d
theorem drw2_end {b b' : Nat × List Int} {s s' : Int} {o : Option M} {d0 : D} {env : Env} {Po : D → Prop} {d : D} (h : b'.1 = b.1) (hd : Dealt b' s') (hp : Po d) : ∃ ms', lentBack [.deal true b s, .val d0] (some (.deal true b' s') :: o :: env) = some ms' ∧ Drw2 b d0 Po (.val d) ms' := ⟨_, lb2 h, _, _, _, rfl, rfl, h, hd, hp⟩
theorem near_of {x : Int} (h0 : 0 ≤ x) (h1 : x ≤ 4 * bigB) : Near x := by have := big_pos; exact ⟨by omega, by omega⟩
abbrev OfAt (r : Fs) (f : Nat) : Prop := ∀ {b : Nat × List Int} {s : Int} {xs : List D}, Dealt b s → 0 < xs.length → xs.length ≤ 1000 → (r f [.deal true b s, .val (.lst xs)]).wp (fun m ms => ∃ d b' s', m = .val d ∧ ms = [.deal true b' s', .val (.lst xs)] ∧ b'.1 = b.1 ∧ Dealt b' s' ∧ d ∈ xs) fun _ _ => False
section
variable {r : Fs} {env : Env} {i : Nat} {K : Q × Env → Prop} {X : Nat → D → Env → Prop} {io : Bool} {b : Nat × List Int} {s : Int}
/-- one of some, and it keeps what all keep -/
theorem call_of {xs : List D} (Po : D → Prop) (h11 : OfAt r 11) (hs : slot i env = some (.deal io b s)) (hd : Dealt b s) (h0 : 0 < xs.length) (h1 : xs.length ≤ 1000) (hp : ∀ d ∈ xs, Po d)
    (k : ∀ d b' s', b'.1 = b.1 → Dealt b' s' → Po d → K (.mv (.val d), env.set i (some (.deal io b' s')))) : R.wp (callF r 11 [.ref i, .mv (.own false xs)] env) K X :=
  call_dl (i := i) (Po := Po) hs (rf_mono (h11 hd h0 h1) fun m ms ⟨d, b', s', a1, a2, a3, a4, a5⟩ => ⟨d, b', s', a1, a2, a3, a4, hp d a5⟩) k
end
section
variable {r : Fs}
theorem w_near (h10 : r 10 = anyF) (h11 : OfAt r 11) {b : Nat × List Int} {s : Int} (hd : Dealt b s) {rs : List (Int × Int)} {e : Int} (ok : RowOk rs e) :
    (denF r 2 8 B__law_near [.deal true b s, .val (rowD rs e)]).wp (Drw2 b (rowD rs e) Mild2) fun _ _ => False := by
  refine fn_wp rfl rfl ?_
  unfold B__law_near
  simp only [List.map_cons, List.map_nil, List.cons_append, List.nil_append, List.length_cons, List.length_nil, Nat.zero_add, Nat.reduceAdd, Nat.reduceSub, List.replicate_succ, List.replicate_zero]
  have vx0 : evalOp .ix [rowD rs e, .int 0] = some (.val (.tup (rs.map runD))) := ix0 ..
  have vx1 : evalOp .ix [rowD rs e, .int 1] = some (.val (.int e)) := ix1 ..
  have hfew := ok.few
  have e0 := ok.falls.end0
  have eB := ok.le
  have b1000 := big_pos
  have hlike := ok.like
  have hflat := ok.flat (n := 40) (by decide)
  simp_arith! [back, wipe, List.getElem?_cons_succ, List.getElem?_cons_zero, Option.join_none, Option.join_some, List.cons_append, List.nil_append, if_pos (show 0 ≤ maxLen by decide), if_pos (show 1 ≤ maxLen by decide), if_pos (show 2 ≤ maxLen by decide), if_pos (show 3 ≤ maxLen by decide)]
  refine call_any (i := 0) h10 rfl hd (by decide) (by decide) fun form b1 s1 e1 h1 f0 f1 => ?_
  simp_arith! [back, wipe, List.getElem?_cons_succ, List.getElem?_cons_zero, Option.join_none, Option.join_some, List.cons_append, List.nil_append, if_pos (show 0 ≤ maxLen by decide), if_pos (show 1 ≤ maxLen by decide), if_pos (show 2 ≤ maxLen by decide), if_pos (show 3 ≤ maxLen by decide), vx0, vx1]
  by_cases c0 : form = 0
  · rw [if_pos c0]
    rw [if_pos (by decide)]
    refine call_of (i := 0) Mild2 h11 rfl h1 (by simp) (by simp) ?_ ?_
    · intro d hm
      simp only [List.mem_cons, List.not_mem_nil, or_false] at hm
      have no : ∀ {V : D}, (∀ ds l, V = .tup (.tup ds :: l) → False) → D.flat 50 V = true → Mild2 V := fun h f => mild_gen (fun ds l e => (h ds l e).elim) f
      have hl2 : (rs.map runD).length ≤ 2000 := by rw [List.length_map]; omega
      rcases hm with rfl | rfl | rfl | rfl | rfl | rfl | rfl | rfl | rfl | rfl
      · exact no (fun _ _ h => (by cases h)) rfl
      · exact no (fun _ _ h => (by cases h)) (ok.flat (n := 49) (by decide))
      · refine no (fun _ _ h => (by cases h)) ?_
        simp only [D.flat, D.flats, ok.flat (n := 48) (by decide), Bool.and_self]
      · refine no (fun _ _ h => (by cases h)) ?_
        simp only [D.flat, D.flats, ok.flat (n := 48) (by decide), Bool.and_self]
      · refine mild_gen (fun _ _ h => ?_) ?_
        · cases h; exact ⟨hl2, hlike⟩
        · simp only [D.flat, D.flats, ok.flat (n := 48) (by decide), Bool.and_self]
      · refine mild_gen (fun _ _ h => ?_) ?_
        · cases h; exact ⟨hl2, hlike⟩
        · simp only [D.flat, D.flats, ok.flat (n := 48) (by decide), Bool.and_self]
      · exact no (fun _ _ h => (by cases h)) rfl
      · exact mild_two hl2 hlike rfl
      · exact mild_two hl2 hlike (by decide +kernel)
      · exact mild_two (by simp) (fun d hd => by rw [List.mem_singleton.mp hd]; exact runLike_no rfl rfl) rfl
    · intro d b2 s2 e2 h2 hp
      simp_arith!
      exact drw2_end (e2.trans e1) h2 hp
  · rw [if_neg c0]
    have nl : ∀ {x y : Int}, Near x → 0 < y → y ≤ 3 → x.natAbs.log2 + y.natAbs.log2 < 1000000 := fun {x y} hx h0 h1 => by
      have := near_log hx
      have : y.natAbs.log2 < 2 := small_log (k := 2) (by omega) (by omega)
      omega
    have ne : Near e := near_of e0 (by omega)
    by_cases c1 : form = 1
    · rw [if_pos c1]
      simp_arith! [back, wipe, List.getElem?_cons_succ, List.getElem?_cons_zero, Option.join_none, Option.join_some, List.cons_append, List.nil_append, if_pos (show 0 ≤ maxLen by decide), if_pos (show 1 ≤ maxLen by decide), if_pos (show 2 ≤ maxLen by decide), if_pos (show 3 ≤ maxLen by decide), v_mul, if_pos (nl ne (y := 2) (by decide) (by decide)), if_pos (nl ne (y := 3) (by decide) (by decide))]
      rw [if_pos (by decide)]
      refine call_of (i := 0) (fun d => D.flat 40 d = true) h11 rfl h1 (by simp) (by simp) ?_ ?_
      · intro d hm
        simp only [List.mem_cons, List.not_mem_nil, or_false] at hm
        rcases hm with rfl | rfl | rfl | rfl | rfl | rfl | rfl | rfl <;> rfl
      · intro d b2 s2 e2 h2 hp
        simp_arith! [back, wipe, List.getElem?_cons_succ, List.getElem?_cons_zero, Option.join_none, Option.join_some, List.cons_append, List.nil_append, if_pos (show 0 ≤ maxLen by decide), if_pos (show 1 ≤ maxLen by decide), if_pos (show 2 ≤ maxLen by decide), if_pos (show 3 ≤ maxLen by decide)]
        exact drw2_end (e2.trans e1) h2 (mild_two (by rw [List.length_map]; omega) hlike hp)
    · rw [if_neg c1]
      simp_arith! [back, wipe, List.getElem?_cons_succ, List.getElem?_cons_zero, Option.join_none, Option.join_some, List.cons_append, List.nil_append, if_pos (show 0 ≤ maxLen by decide), if_pos (show 1 ≤ maxLen by decide), if_pos (show 2 ≤ maxLen by decide), if_pos (show 3 ≤ maxLen by decide), eq_nilD (ok.flat (n := 59) (by decide))]
      rw [ite_or2]
      have hmem : ∀ {ds ds' : List D} {d : D}, (∀ x ∈ ds, x = d ∨ x ∈ ds') → RunLike d → (∀ x ∈ ds', RunLike x) → ∀ x ∈ ds, RunLike x := fun h hd hds x hx => by
        rcases h x hx with rfl | h
        · exact hd
        · exact hds x h
      have efl : D.flat 40 (.int e) = true := rfl
      have hfin : ∀ {ds : List D} {b' : Nat × List Int} {s' : Int} {o : Option M} {env : Env}, b'.1 = b.1 → Dealt b' s' → ds.length ≤ 2000 → (∀ x ∈ ds, RunLike x) → ∃ ms', lentBack [.deal true b s, .val (rowD rs e)] (some (.deal true b' s') :: o :: env) = some ms' ∧ Drw2 b (rowD rs e) Mild2 (.val (.tup [.tup ds, .int e])) ms' :=
        fun h1 h2 hl hx => drw2_end h1 h2 (mild_two hl hx efl)
      have mx : maxLen = 16777216 := rfl
      by_cases c2 : (rs.map runD).isEmpty = true ∨ form = 2
      · rw [if_pos c2]
        refine call_any (i := 0) h10 rfl h1 (by omega) (Nat.lt_of_le_of_lt (Nat.log2_le_self _) (by rw [List.length_map]; omega)) fun j b2 s2 e2 h2 j0 j1 => ?_
        simp_arith! [back, wipe, List.getElem?_cons_succ, List.getElem?_cons_zero, Option.join_none, Option.join_some, List.cons_append, List.nil_append, if_pos (show 0 ≤ maxLen by decide), if_pos (show 1 ≤ maxLen by decide), if_pos (show 2 ≤ maxLen by decide), if_pos (show 3 ≤ maxLen by decide)]
        refine call_any (i := 0) h10 rfl h2 (by decide) (by decide) fun j3 b3 s3 e3 h3 p0 p1 => ?_
        simp_arith! [back, wipe, List.getElem?_cons_succ, List.getElem?_cons_zero, Option.join_none, Option.join_some, List.cons_append, List.nil_append, if_pos (show 0 ≤ maxLen by decide), if_pos (show 1 ≤ maxLen by decide), if_pos (show 2 ≤ maxLen by decide), if_pos (show 3 ≤ maxLen by decide)]
        refine call_any (i := 0) h10 rfl h3 (by decide) (by decide) fun j4 b4 s4 e4 h4 q0 q1 => ?_
        have hjl : (rs.map runD).length < maxLen ∧ 0 ≤ j ∧ j ≤ ((rs.map runD).length : Int) := ⟨by rw [List.length_map]; omega, j0, by omega⟩
        simp_arith! [back, wipe, List.getElem?_cons_succ, List.getElem?_cons_zero, Option.join_none, Option.join_some, List.cons_append, List.nil_append, if_pos (show 0 ≤ maxLen by decide), if_pos (show 1 ≤ maxLen by decide), if_pos (show 2 ≤ maxLen by decide), if_pos (show 3 ≤ maxLen by decide), if_pos hjl]
        refine hfin (e4.trans (e3.trans (e2.trans e1))) h4 ?_ ?_
        · simp only [List.length_append, List.length_take, List.length_drop, List.length_cons, List.length_nil, List.length_map]; omega
        · refine hmem (ds' := rs.map runD) (d := .tup [.int (1 + j3), .int (1 + j4)]) (fun x hx => ?_) (runLike_pair (near_of (by omega) (by omega)) (near_of (by omega) (by omega))) hlike
          exact ins_mem hx
      · rw [if_neg c2]
        have c3 : rs ≠ [] := fun h => c2 (.inl (by rw [h]; rfl))
        have c4 : form ≠ 2 := fun h => c2 (.inr h)
        have hpos : 0 < rs.length := List.length_pos_iff.mpr c3
        refine call_any (i := 0) h10 rfl h1 (by rw [List.length_map]; omega) (Nat.lt_of_le_of_lt (Nat.log2_le_self _) (by rw [List.length_map]; omega)) fun j b2 s2 e2 h2 j0 j1 => ?_
        rw [List.length_map] at j1
        have hj : j.toNat < rs.length := by omega
        have hpl : place (rs.map runD).length j = some j.toNat := by unfold place; rw [if_pos j0, if_pos (by rw [List.length_map]; omega)]
        obtain ⟨⟨sx, tx⟩, hst⟩ : ∃ p, rs[j.toNat]? = some p := ⟨_, List.getElem?_eq_getElem hj⟩
        have hst' : (rs.map runD)[j.toNat]? = some (.tup [.int sx, .int tx]) := by rw [List.getElem?_map, hst]; rfl
        have hsm : (sx, tx) ∈ rs := List.mem_of_getElem? hst
        obtain ⟨sp, tp, sB, tB⟩ := ok.runs hsm
        dsimp only at sp tp sB tB
        have sN : Near sx := (ok.near hsm).1
        have tN : Near tx := (ok.near hsm).2
        have e12 := e2.trans e1
        have hset : ∀ {d : D}, RunLike d → ∀ x ∈ (rs.map runD).set j.toNat d, RunLike x := fun {d} hd x hx => by
          rcases List.mem_or_eq_of_mem_set hx with h | h
          · exact hlike x h
          · rw [h]; exact hd
        have hsetl : ∀ {d : D}, ((rs.map runD).set j.toNat d).length ≤ 2000 := fun {d} => by rw [List.length_set, List.length_map]; omega
        simp_arith! [back, wipe, List.getElem?_cons_succ, List.getElem?_cons_zero, Option.join_none, Option.join_some, List.cons_append, List.nil_append, if_pos (show 0 ≤ maxLen by decide), if_pos (show 1 ≤ maxLen by decide), if_pos (show 2 ≤ maxLen by decide), if_pos (show 3 ≤ maxLen by decide), v_ixL, hpl, hst', Option.map_some]
        by_cases g5 : form < 5
        · rw [if_pos g5]
          rw [if_pos (by decide)]
          refine call_of (i := 0) (fun d => ∃ x : Int, d = .int x ∧ -bigB ≤ x ∧ x ≤ bigB) h11 rfl h2 (by simp) (by simp) ?_ ?_
          · intro d hm
            simp only [List.mem_cons, List.not_mem_nil, or_false] at hm
            rcases hm with rfl | rfl | rfl | rfl | rfl
            · exact ⟨_, rfl, by omega, by omega⟩
            · exact ⟨_, rfl, by omega, by omega⟩
            · exact ⟨_, rfl, by omega, by omega⟩
            · exact ⟨_, rfl, by omega, by omega⟩
            · exact ⟨_, rfl, by omega, by omega⟩
          · rintro d b3 s3 e3 h3 ⟨x, rfl, x0, x1⟩
            simp_arith! [back, wipe, List.getElem?_cons_succ, List.getElem?_cons_zero, Option.join_none, Option.join_some, List.cons_append, List.nil_append, if_pos (show 0 ≤ maxLen by decide), if_pos (show 1 ≤ maxLen by decide), if_pos (show 2 ≤ maxLen by decide), if_pos (show 3 ≤ maxLen by decide), hpl]
            exact hfin (e3.trans e12) h3 hsetl (hset (runLike_pair ⟨by omega, by omega⟩ tN))
        · rw [if_neg g5]
          by_cases g7 : form < 7
          · rw [if_pos g7]
            simp_arith! [back, wipe, List.getElem?_cons_succ, List.getElem?_cons_zero, Option.join_none, Option.join_some, List.cons_append, List.nil_append, if_pos (show 0 ≤ maxLen by decide), if_pos (show 1 ≤ maxLen by decide), if_pos (show 2 ≤ maxLen by decide), if_pos (show 3 ≤ maxLen by decide), v_mul, if_pos (nl tN (y := 2) (by decide) (by decide))]
            rw [if_pos (by decide)]
            refine call_of (i := 0) (fun d => ∃ x : Int, d = .int x ∧ -1 ≤ x ∧ x ≤ 2 * bigB) h11 rfl h2 (by simp) (by simp) ?_ ?_
            · intro d hm
              simp only [List.mem_cons, List.not_mem_nil, or_false] at hm
              rcases hm with rfl | rfl | rfl | rfl | rfl
              · exact ⟨_, rfl, by omega, by omega⟩
              · exact ⟨_, rfl, by omega, by omega⟩
              · exact ⟨_, rfl, by omega, by omega⟩
              · exact ⟨_, rfl, by omega, by omega⟩
              · exact ⟨_, rfl, by omega, by omega⟩
            · rintro d b3 s3 e3 h3 ⟨x, rfl, x0, x1⟩
              simp_arith! [back, wipe, List.getElem?_cons_succ, List.getElem?_cons_zero, Option.join_none, Option.join_some, List.cons_append, List.nil_append, if_pos (show 0 ≤ maxLen by decide), if_pos (show 1 ≤ maxLen by decide), if_pos (show 2 ≤ maxLen by decide), if_pos (show 3 ≤ maxLen by decide), hpl]
              exact hfin (e3.trans e12) h3 hsetl (hset (runLike_pair sN ⟨by omega, by omega⟩))
          · rw [if_neg g7]
            by_cases g8 : form = 7
            · rw [if_pos g8]
              rw [if_pos (by decide)]
              refine call_of (i := 0) RunLike h11 rfl h2 (by simp) (by simp) ?_ ?_
              · intro d hm
                simp only [List.mem_cons, List.not_mem_nil, or_false] at hm
                rcases hm with rfl | rfl | rfl | rfl | rfl | rfl | rfl | rfl | rfl
                · exact runLike_no rfl rfl
                · exact runLike_no rfl rfl
                · exact runLike_no rfl rfl
                · exact runLike_no rfl rfl
                · exact runLike_no rfl rfl
                · exact runLike_no rfl rfl
                · exact runLike_pair (near_of (by decide) (by omega)) tN
                · exact runLike_pair ⟨by omega, by omega⟩ tN
                · exact runLike_no rfl rfl
              · rintro d b3 s3 e3 h3 hx
                simp_arith! [back, wipe, List.getElem?_cons_succ, List.getElem?_cons_zero, Option.join_none, Option.join_some, List.cons_append, List.nil_append, if_pos (show 0 ≤ maxLen by decide), if_pos (show 1 ≤ maxLen by decide), if_pos (show 2 ≤ maxLen by decide), if_pos (show 3 ≤ maxLen by decide), hpl]
                exact hfin (e3.trans e12) h3 hsetl (hset hx)
            · rw [if_neg g8]
              by_cases g9 : form = 8
              · rw [if_pos g9]
                have hjb : -(2 ^ 60) ≤ j ∧ j < 2 ^ 60 := by omega
                simp_arith! [back, wipe, List.getElem?_cons_succ, List.getElem?_cons_zero, Option.join_none, Option.join_some, List.cons_append, List.nil_append, if_pos (show 0 ≤ maxLen by decide), if_pos (show 1 ≤ maxLen by decide), if_pos (show 2 ≤ maxLen by decide), if_pos (show 3 ≤ maxLen by decide), q_popAt, hpl, hst', if_pos hjb]
                refine hfin e12 h2 (by rw [List.length_eraseIdx]; split <;> rw [List.length_map] <;> omega) (fun x hx => hlike x (List.mem_of_mem_eraseIdx hx))
              · rw [if_neg g9]
                by_cases g10 : form = 9
                · rw [if_pos g10]
                  have hjl : (rs.map runD).length < maxLen ∧ 0 ≤ j ∧ j ≤ ((rs.map runD).length : Int) := ⟨by rw [List.length_map]; omega, j0, by rw [List.length_map]; omega⟩
                  simp_arith! [back, wipe, List.getElem?_cons_succ, List.getElem?_cons_zero, Option.join_none, Option.join_some, List.cons_append, List.nil_append, if_pos (show 0 ≤ maxLen by decide), if_pos (show 1 ≤ maxLen by decide), if_pos (show 2 ≤ maxLen by decide), if_pos (show 3 ≤ maxLen by decide), if_pos hjl]
                  refine hfin e12 h2 ?_ ?_
                  · simp only [List.length_append, List.length_take, List.length_drop, List.length_cons, List.length_nil, List.length_map]; omega
                  · refine hmem (ds' := rs.map runD) (d := .tup [.int sx, .int 1]) (fun x hx => ?_) (runLike_pair sN (near_of (by decide) (by omega))) hlike
                    exact ins_mem hx
                · rw [if_neg g10]
                  by_cases g11 : form = 10
                  · rw [if_pos g11]
                    exact hfin e12 h2 (by rw [List.length_reverse, List.length_map]; omega) fun x hx => hlike x (List.mem_reverse.mp hx)
                  · rw [if_neg g11]
                    exact hfin e12 h2 (by rw [List.length_map]; omega) hlike
end
end Rx

/-! RxFa -/
/-! RxFa: numbers near a row's set. -/
set_option linter.all false
set_option Elab.async false
set_option maxRecDepth 100000
set_option maxHeartbeats 1000000
namespace Rx
local macro_rules
  | `(tactic| simp!) => `(tactic| simp only [slot_z, slot_1, slot_2, slot_3, slot_4, slot_5, slot_6, slot_7, slot_8, slot_9, slot_10, slot_11, slot_12, q_var, q_frz, q_cst, q_op, q_call, q_callK, q_tup, q_lst, q_ite, q_and, q_or, q_not, q_chain, q_pop, q_exAt, es_nil, es_cons, ks_nil, ks_cons, t_and, t_or, t_not, t_op, t_var, t_call, t_callK, t_chain, t_cst, c_yes, c_one, b_ok, b_exc, o_ok, o_exc, of_some, g_val, g_new, g_ref, gs_nil, gs_cons, k_val, k_new, tk_val, tk_new, tk_deal, gv_val, gv_new, gv_ref, m_val, m_new, p_nm, p_tp, p_tpp, putD_nil, putD_cons, putM_nil, putM_cons, put_def, free_def, ts_nil, ts_cons, t1_ok, t1_exc, tr_bl, tr_non, ss_nil, ss_cons, s_asg, s_par, s_aug, s_app, s_ext, s_pop, s_expr, s_doc, s_ret, s_retN, s_pass, s_brk, s_cnt, s_ite, s_raise, s_setix, s_ins, i_seq, i_rg1, i_rg2, i_enum, i_zip, i_rev, sq_lst, sq_tup, wl_vs, v_add, v_sub, v_neg, v_lt, v_le, v_gt, v_ge, v_isN, v_notN, v_isB, v_notB, v_rev, v_lenL, v_lenT, v_abs, v_int, v_listL, v_listT, v_tupleL, v_tupleT, v_max2, v_min2, v_isa, Option.bind_some, List.set_cons_zero, List.set_cons_succ, List.length_cons, List.length_nil, if_true, if_false, reduceIte, Bool.false_eq_true, decide_true, decide_false, isOwn])
  | `(tactic| simp! [$ls,*]) => `(tactic| simp only [slot_z, slot_1, slot_2, slot_3, slot_4, slot_5, slot_6, slot_7, slot_8, slot_9, slot_10, slot_11, slot_12, q_var, q_frz, q_cst, q_op, q_call, q_callK, q_tup, q_lst, q_ite, q_and, q_or, q_not, q_chain, q_pop, q_exAt, es_nil, es_cons, ks_nil, ks_cons, t_and, t_or, t_not, t_op, t_var, t_call, t_callK, t_chain, t_cst, c_yes, c_one, b_ok, b_exc, o_ok, o_exc, of_some, g_val, g_new, g_ref, gs_nil, gs_cons, k_val, k_new, tk_val, tk_new, tk_deal, gv_val, gv_new, gv_ref, m_val, m_new, p_nm, p_tp, p_tpp, putD_nil, putD_cons, putM_nil, putM_cons, put_def, free_def, ts_nil, ts_cons, t1_ok, t1_exc, tr_bl, tr_non, ss_nil, ss_cons, s_asg, s_par, s_aug, s_app, s_ext, s_pop, s_expr, s_doc, s_ret, s_retN, s_pass, s_brk, s_cnt, s_ite, s_raise, s_setix, s_ins, i_seq, i_rg1, i_rg2, i_enum, i_zip, i_rev, sq_lst, sq_tup, wl_vs, v_add, v_sub, v_neg, v_lt, v_le, v_gt, v_ge, v_isN, v_notN, v_isB, v_notB, v_rev, v_lenL, v_lenT, v_abs, v_int, v_listL, v_listT, v_tupleL, v_tupleT, v_max2, v_min2, v_isa, Option.bind_some, List.set_cons_zero, List.set_cons_succ, List.length_cons, List.length_nil, if_true, if_false, reduceIte, Bool.false_eq_true, decide_true, decide_false, isOwn, $ls,*])
local macro_rules
  | `(tactic| simp_arith!) => `(tactic| simp (config := { dsimp := false, implicitDefEqProofs := false }) only [↓wp_bind, ↓wp_o, ↓wo_cons, ↓wp_test1, ↓wp_ok, ↓w_op, ↓w_call, ↓w_callK, ↓w_tup, ↓w_lst, ↓w_ite, ↓w_es_nil, ↓w_es, ↓w_ks_nil, ↓w_ks, keptQ_val, keptQ_new, ↓w_and, ↓w_or, ↓w_not, ↓w_top, ↓w_tvar, ↓w_tcall, ↓w_tcallK, ↓w_teqR, ↓w_asg, ↓w_ret, ↓w_site, ↓w_expr, ↓w_par, ↓w_eqR, slot_z, slot_1, slot_2, slot_3, slot_4, slot_5, slot_6, slot_7, slot_8, slot_9, slot_10, slot_11, slot_12, q_var, q_frz, q_cst, q_op, q_call, q_callK, q_tup, q_lst, q_ite, q_and, q_or, q_not, q_chain, q_pop, q_exAt, es_nil, es_cons, ks_nil, ks_cons, t_and, t_or, t_not, t_op, t_var, t_call, t_callK, t_chain, t_cst, t_eqR, q_eqR, c_yes, c_one, b_ok, b_exc, o_ok, o_exc, of_some, g_val, g_new, g_ref, gs_nil, gs_cons, k_val, k_new, tk_val, tk_new, tk_deal, gv_val, gv_new, gv_ref, m_val, m_new, p_nm, p_tp, p_tpp, putD_nil, putD_cons, putM_nil, putM_cons, put_def, free_def, ts_nil, ts_cons, t1_ok, t1_exc, tr_bl, tr_non, ss_nil, s_asg, s_par, s_aug, s_app, s_ext, s_pop, s_expr, s_doc, s_ret, s_retN, s_pass, s_brk, s_cnt, s_ite, s_raise, s_setix, s_ins, i_seq, i_rg1, i_rg2, i_enum, i_zip, i_rev, sq_lst, sq_tup, wl_vs, v_add, v_sub, v_neg, v_lt, v_le, v_gt, v_ge, v_isN, v_notN, v_isB, v_notB, v_rev, v_lenL, v_lenT, v_abs, v_int, v_listL, v_listT, v_tupleL, v_tupleT, v_max2, v_min2, v_isa, Option.bind_some, List.set_cons_zero, List.set_cons_succ, List.length_cons, List.length_nil, if_true, if_false, reduceIte, Bool.false_eq_true, Bool.true_eq_false, decide_true, decide_false, isOwn, wp_ok, wp_exc, wp_bind, wp_o, wp_ite, wo_ite, wo_nx, wo_rt, wo_bk, wo_ct, wo_exc, wo_cons, wp_test1, tst_mk, v_eqI, v_neI, decide_eq_true_eq, Bool.not_eq_true', decide_eq_false_iff_not, Nat.reduceAdd, Nat.reduceLT, Nat.reduceLeDiff, Nat.zero_add, and_true, true_and])
  | `(tactic| simp_arith! [$ls,*]) => `(tactic| simp (config := { dsimp := false, implicitDefEqProofs := false }) only [↓wp_bind, ↓wp_o, ↓wo_cons, ↓wp_test1, ↓wp_ok, ↓w_op, ↓w_call, ↓w_callK, ↓w_tup, ↓w_lst, ↓w_ite, ↓w_es_nil, ↓w_es, ↓w_ks_nil, ↓w_ks, keptQ_val, keptQ_new, ↓w_and, ↓w_or, ↓w_not, ↓w_top, ↓w_tvar, ↓w_tcall, ↓w_tcallK, ↓w_teqR, ↓w_asg, ↓w_ret, ↓w_site, ↓w_expr, ↓w_par, ↓w_eqR, slot_z, slot_1, slot_2, slot_3, slot_4, slot_5, slot_6, slot_7, slot_8, slot_9, slot_10, slot_11, slot_12, q_var, q_frz, q_cst, q_op, q_call, q_callK, q_tup, q_lst, q_ite, q_and, q_or, q_not, q_chain, q_pop, q_exAt, es_nil, es_cons, ks_nil, ks_cons, t_and, t_or, t_not, t_op, t_var, t_call, t_callK, t_chain, t_cst, t_eqR, q_eqR, c_yes, c_one, b_ok, b_exc, o_ok, o_exc, of_some, g_val, g_new, g_ref, gs_nil, gs_cons, k_val, k_new, tk_val, tk_new, tk_deal, gv_val, gv_new, gv_ref, m_val, m_new, p_nm, p_tp, p_tpp, putD_nil, putD_cons, putM_nil, putM_cons, put_def, free_def, ts_nil, ts_cons, t1_ok, t1_exc, tr_bl, tr_non, ss_nil, s_asg, s_par, s_aug, s_app, s_ext, s_pop, s_expr, s_doc, s_ret, s_retN, s_pass, s_brk, s_cnt, s_ite, s_raise, s_setix, s_ins, i_seq, i_rg1, i_rg2, i_enum, i_zip, i_rev, sq_lst, sq_tup, wl_vs, v_add, v_sub, v_neg, v_lt, v_le, v_gt, v_ge, v_isN, v_notN, v_isB, v_notB, v_rev, v_lenL, v_lenT, v_abs, v_int, v_listL, v_listT, v_tupleL, v_tupleT, v_max2, v_min2, v_isa, Option.bind_some, List.set_cons_zero, List.set_cons_succ, List.length_cons, List.length_nil, if_true, if_false, reduceIte, Bool.false_eq_true, Bool.true_eq_false, decide_true, decide_false, isOwn, wp_ok, wp_exc, wp_bind, wp_o, wp_ite, wo_ite, wo_nx, wo_rt, wo_bk, wo_ct, wo_exc, wo_cons, wp_test1, tst_mk, v_eqI, v_neI, decide_eq_true_eq, Bool.not_eq_true', decide_eq_false_iff_not, Nat.reduceAdd, Nat.reduceLT, Nat.reduceLeDiff, Nat.zero_add, and_true, true_and, $ls,*])
theorem cutT (xs : List D) {j : Int} (h0 : 0 ≤ j) (h1 : j ≤ xs.length) : cut xs none (some j) = xs.take j.toNat := by
  unfold cut bound
  simp only
  rw [if_neg (by omega), Nat.min_eq_left (by omega)]
  simp
theorem eq_nilT {xs : List D} (h : D.flats 59 xs = true) : evalOp .eq [.tup xs, .tup []] = some (.val (.bl xs.isEmpty)) := by
  rw [v_eq]
  have : D.flat 60 (.tup xs) = true := h
  rw [this]
  cases xs <;> rfl
/-- a number -/
def IsNat (d : D) : Prop := ∃ n : Int, d = .int n ∧ 0 ≤ n
def prodD : D → D
  | .tup [.int a, .int b] => .int (a * b)
  | _ => .non
theorem sum_prod : ∀ rs : List (Int × Int), (rs.map runD).map prodD = rs.map fun p => .int (p.1 * p.2)
  | [] => rfl
  | p :: rs => by rw [List.map_cons, List.map_cons, List.map_cons, sum_prod rs]; rfl
section
variable {r : Fs}
/-- step * times, of each run -/
theorem q_prods {it : I} {a b c d e f : Option M} {rs : List (Int × Int)} (ok : RunsOk rs) (hl : rs.length ≤ 2000) (hi : denI r it [a, b, c, d, e, f, none, none] = .ok (.vs (rs.map runD), [a, b, c, d, e, f, none, none])) :
    denG r (.comp (.tp [6, 7]) [6, 7] it .yes (.op .mul (.cons (.var 6) (.cons (.var 7) .nil)))) false [a, b, c, d, e, f, none, none] = .ok (.mv (.own false (rs.map fun p => .int (p.1 * p.2))), [a, b, c, d, e, f, none, none]) := by
  have hq := q_map (r := r) (t := .tp [6, 7]) (own := [6, 7]) (it := it) (e := .op .mul (.cons (.var 6) (.cons (.var 7) .nil))) (env := [a, b, c, d, e, f, none, none]) (env1 := [a, b, c, d, e, f, none, none]) (ds := rs.map runD)
    prodD (fun x => match x with | .tup [u, v] => [a, b, c, d, e, f, some (.val u), some (.val v)] | _ => []) hi rfl (by rw [List.length_map]; unfold maxLen; omega) (fun x hx => by
      obtain ⟨p, _, rfl⟩ := List.mem_map.mp hx
      rfl) (fun x hx => by
      obtain ⟨p, hp, rfl⟩ := List.mem_map.mp hx
      exact ⟨.mv (.val (.int (p.1 * p.2))), by simp! [v_mul, if_pos (ok p hp).2, runD], rfl⟩) (fun x hx => by
      obtain ⟨p, _, rfl⟩ := List.mem_map.mp hx
      rfl)
  rw [sum_prod] at hq
  simpa only [back, wipe, List.getElem?_cons_succ, List.getElem?_cons_zero, Option.join_none, Option.join_some, List.set_cons_zero, List.set_cons_succ] using hq
theorem w_count (h10 : r 10 = anyF) (h11 : OfAt r 11) {b : Nat × List Int} {s : Int} (hd : Dealt b s) {rs : List (Int × Int)} {e : Int} (ok : RowOk rs e) :
    (denF r 2 8 B__law_count [.deal true b s, .val (rowD rs e)]).wp (Drw2 b (rowD rs e) IsNat) fun _ _ => False := by
  refine fn_wp rfl rfl ?_
  unfold B__law_count
  simp only [List.map_cons, List.map_nil, List.cons_append, List.nil_append, List.length_cons, List.length_nil, Nat.zero_add, Nat.reduceAdd, Nat.reduceSub, List.replicate_succ, List.replicate_zero]
  have vx0 : evalOp .ix [rowD rs e, .int 0] = some (.val (.tup (rs.map runD))) := ix0 ..
  have vx1 : evalOp .ix [rowD rs e, .int 1] = some (.val (.int e)) := ix1 ..
  have hfew := ok.few
  have e0 := ok.falls.end0
  have eB := ok.le
  have b1000 := big_pos
  have q1 := q_prods (r := r) (it := .seq (.op .ix (.cons (.var 1) (.cons (.cst (.int 0)) .nil)))) (a := some (.deal true b s)) (b := some (.val (rowD rs e))) (c := none) (d := none) (e := none) (f := none) (rs := rs) ok.rok (by omega) (by simp! [vx0])
  simp_arith! [back, wipe, List.getElem?_cons_succ, List.getElem?_cons_zero, Option.join_none, Option.join_some, List.cons_append, List.nil_append, if_pos (show 0 ≤ maxLen by decide), if_pos (show 1 ≤ maxLen by decide), if_pos (show 2 ≤ maxLen by decide), if_pos (show 3 ≤ maxLen by decide), q1, v_sum, ints_map, Option.map_some]
  refine call_any (i := 0) h10 rfl hd (by decide) (by decide) fun form b1 s1 e1 h1 f0 f1 => ?_
  simp_arith! [back, wipe, List.getElem?_cons_succ, List.getElem?_cons_zero, Option.join_none, Option.join_some, List.cons_append, List.nil_append, if_pos (show 0 ≤ maxLen by decide), if_pos (show 1 ≤ maxLen by decide), if_pos (show 2 ≤ maxLen by decide), if_pos (show 3 ≤ maxLen by decide)]
  generalize (rs.map fun p => p.1 * p.2).sum = total
  by_cases c0 : form = 0
  · rw [if_pos c0]
    refine call_any (i := 0) h10 rfl h1 (by decide) (by decide) fun j b2 s2 e2 h2 j0 j1 => ?_
    simp_arith!
    exact drw2_end (e2.trans e1) h2 ⟨j, rfl, j0⟩
  · rw [if_neg c0]
    by_cases c1 : form = 1
    · rw [if_pos c1]
      simp_arith! [back, wipe, List.getElem?_cons_succ, List.getElem?_cons_zero, Option.join_none, Option.join_some, List.cons_append, List.nil_append, if_pos (show 0 ≤ maxLen by decide), if_pos (show 1 ≤ maxLen by decide), if_pos (show 2 ≤ maxLen by decide), if_pos (show 3 ≤ maxLen by decide), vx1]
      refine call_any (i := 0) h10 rfl h1 (by decide) (by decide) fun j b2 s2 e2 h2 j0 j1 => ?_
      have ml : e.natAbs.log2 + j.natAbs.log2 < 1000000 := by
        have := near_log (x := e) (near_of e0 (by omega))
        have := near_log (x := j) (near_of j0 (by omega))
        omega
      simp_arith! [back, wipe, List.getElem?_cons_succ, List.getElem?_cons_zero, Option.join_none, Option.join_some, List.cons_append, List.nil_append, if_pos (show 0 ≤ maxLen by decide), if_pos (show 1 ≤ maxLen by decide), if_pos (show 2 ≤ maxLen by decide), if_pos (show 3 ≤ maxLen by decide), v_mul, if_pos ml]
      refine call_any (i := 0) h10 rfl h2 (by decide) (by decide) fun k b3 s3 e3 h3 k0 k1 => ?_
      simp_arith! [back, wipe, List.getElem?_cons_succ, List.getElem?_cons_zero, Option.join_none, Option.join_some, List.cons_append, List.nil_append, if_pos (show 0 ≤ maxLen by decide), if_pos (show 1 ≤ maxLen by decide), if_pos (show 2 ≤ maxLen by decide), if_pos (show 3 ≤ maxLen by decide)]
      exact drw2_end (e3.trans (e2.trans e1)) h3 ⟨_, rfl, by split <;> omega⟩
    · rw [if_neg c1]
      simp_arith! [back, wipe, List.getElem?_cons_succ, List.getElem?_cons_zero, Option.join_none, Option.join_some, List.cons_append, List.nil_append, if_pos (show 0 ≤ maxLen by decide), if_pos (show 1 ≤ maxLen by decide), if_pos (show 2 ≤ maxLen by decide), if_pos (show 3 ≤ maxLen by decide), vx0, eq_nilT (ok.flat (n := 59) (by decide))]
      rw [ite_or2]
      by_cases c2 : form = 2 ∨ (rs.map runD).isEmpty = true
      · rw [if_pos c2]
        simp_arith! [back, wipe, List.getElem?_cons_succ, List.getElem?_cons_zero, Option.join_none, Option.join_some, List.cons_append, List.nil_append, if_pos (show 0 ≤ maxLen by decide), if_pos (show 1 ≤ maxLen by decide), if_pos (show 2 ≤ maxLen by decide), if_pos (show 3 ≤ maxLen by decide), v_pow, if_pos (show (0 : Int) ≤ 29 ∧ (29 : Int) ≤ 1000 ∧ (10 : Int).natAbs < 2 ^ 60 by decide)]
        refine call_any (i := 0) h10 rfl h1 (by decide) (by decide) fun j b2 s2 e2 h2 j0 j1 => ?_
        simp_arith!
        exact drw2_end (e2.trans e1) h2 ⟨j, rfl, j0⟩
      · rw [if_neg c2]
        have c3 : rs ≠ [] := fun h => c2 (.inr (by rw [h]; rfl))
        have hpos : 0 < rs.length := List.length_pos_iff.mpr c3
        refine call_any (i := 0) h10 rfl h1 (by rw [List.length_map]; omega) (Nat.lt_of_le_of_lt (Nat.log2_le_self _) (by rw [List.length_map]; omega)) fun j b2 s2 e2 h2 j0 j1 => ?_
        rw [List.length_map] at j1
        have hj : j.toNat < rs.length := by omega
        have hpl : place (rs.map runD).length j = some j.toNat := by unfold place; rw [if_pos j0, if_pos (by rw [List.length_map]; omega)]
        obtain ⟨⟨sx, tx⟩, hst⟩ : ∃ p, rs[j.toNat]? = some p := ⟨_, List.getElem?_eq_getElem hj⟩
        have hix : evalOp .ix [.tup (rs.map runD), .int j] = some (.val (runD (sx, tx))) := by
          rw [v_ixT, hpl]
          show ((rs.map runD)[j.toNat]?).map _ = _
          rw [List.getElem?_map, hst]; rfl
        have hsm : (sx, tx) ∈ rs := List.mem_of_getElem? hst
        obtain ⟨sp, tp, sB, tB⟩ := ok.runs hsm
        dsimp only at sp tp sB tB
        have hct : cut (rs.map runD) none (some j) = (rs.take j.toNat).map runD := by rw [cutT _ j0 (by rw [List.length_map]; omega), List.map_take]
        have q2 := q_prods (r := r) (it := .seq (.op (.sl false true) (.cons (.op .ix (.cons (.var 1) (.cons (.cst (.int 0)) .nil))) (.cons (.var 4) .nil)))) (a := some (.deal true b2 s2)) (b := some (.val (rowD rs e))) (c := some (.val (.int total))) (d := some (.val (.int form))) (e := some (.val (.int j))) (f := none) (rs := rs.take j.toNat)
          (fun p hp => ok.rok p (List.mem_of_mem_take hp)) (by rw [List.length_take]; omega) (by simp! [vx0, v_sl01T, hct])
        simp_arith! [back, wipe, List.getElem?_cons_succ, List.getElem?_cons_zero, Option.join_none, Option.join_some, List.cons_append, List.nil_append, if_pos (show 0 ≤ maxLen by decide), if_pos (show 1 ≤ maxLen by decide), if_pos (show 2 ≤ maxLen by decide), if_pos (show 3 ≤ maxLen by decide), q2, v_sum, ints_map, Option.map_some, vx0, hix, ixR]
        generalize ((rs.take j.toNat).map fun p => p.1 * p.2).sum = begin'
        simp_arith! [back, wipe, List.getElem?_cons_succ, List.getElem?_cons_zero, Option.join_none, Option.join_some, List.cons_append, List.nil_append, if_pos (show 0 ≤ maxLen by decide), if_pos (show 1 ≤ maxLen by decide), if_pos (show 2 ≤ maxLen by decide), if_pos (show 3 ≤ maxLen by decide), ixR1]
        refine call_any (i := 0) h10 rfl h2 (by omega) (Nat.lt_of_lt_of_le (near_log (near_of (by omega) (by omega))) (by decide)) fun k b3 s3 e3 h3 k0 k1 => ?_
        have ml : sx.natAbs.log2 + k.natAbs.log2 < 1000000 := by
          have := near_log (x := sx) (near_of (by omega) (by omega))
          have := near_log (x := k) (near_of k0 (by omega))
          omega
        simp_arith! [back, wipe, List.getElem?_cons_succ, List.getElem?_cons_zero, Option.join_none, Option.join_some, List.cons_append, List.nil_append, if_pos (show 0 ≤ maxLen by decide), if_pos (show 1 ≤ maxLen by decide), if_pos (show 2 ≤ maxLen by decide), if_pos (show 3 ≤ maxLen by decide), v_mul, if_pos ml]
        rw [if_pos (by decide)]
        refine call_of (i := 0) (fun d => ∃ x : Int, d = .int x) h11 rfl h3 (by simp) (by simp) ?_ ?_
        · intro d hm
          simp only [List.mem_cons, List.not_mem_nil, or_false] at hm
          rcases hm with rfl | rfl | rfl | rfl <;> exact ⟨_, rfl⟩
        · rintro d b4 s4 e4 h4 ⟨x, rfl⟩
          simp_arith! [back, wipe, List.getElem?_cons_succ, List.getElem?_cons_zero, Option.join_none, Option.join_some, List.cons_append, List.nil_append, if_pos (show 0 ≤ maxLen by decide), if_pos (show 1 ≤ maxLen by decide), if_pos (show 2 ≤ maxLen by decide), if_pos (show 3 ≤ maxLen by decide)]
          exact drw2_end (e4.trans (e3.trans (e2.trans e1))) h4 ⟨_, rfl, by split <;> omega⟩
end
end Rx

/-! K05T -/
set_option linter.all false
set_option Elab.async false
set_option maxRecDepth 100000
set_option maxHeartbeats 4000000
namespace Rx.K05
open PySem PySem.Spec PyProof.Rows L2 Rx
local macro_rules
  | `(tactic| simp!) => `(tactic| simp only [slot_z, slot_1, slot_2, slot_3, slot_4, slot_5, slot_6, slot_7, slot_8, slot_9, slot_10, slot_11, slot_12, q_var, q_frz, q_cst, q_op, q_call, q_callK, q_tup, q_lst, q_ite, q_and, q_or, q_not, q_chain, q_pop, q_exAt, es_nil, es_cons, ks_nil, ks_cons, t_and, t_or, t_not, t_op, t_var, t_call, t_callK, t_chain, t_cst, c_yes, c_one, b_ok, b_exc, o_ok, o_exc, of_some, g_val, g_new, g_ref, gs_nil, gs_cons, k_val, k_new, tk_val, tk_new, tk_deal, gv_val, gv_new, gv_ref, m_val, m_new, p_nm, p_tp, p_tpp, putD_nil, putD_cons, putM_nil, putM_cons, put_def, free_def, ts_nil, ts_cons, t1_ok, t1_exc, tr_bl, tr_non, ss_nil, ss_cons, s_asg, s_par, s_aug, s_app, s_ext, s_pop, s_expr, s_doc, s_ret, s_retN, s_pass, s_brk, s_cnt, s_ite, s_raise, s_setix, s_ins, i_seq, i_rg1, i_rg2, i_enum, i_zip, i_rev, sq_lst, sq_tup, wl_vs, v_add, v_sub, v_neg, v_lt, v_le, v_gt, v_ge, v_isN, v_notN, v_isB, v_notB, v_rev, v_lenL, v_lenT, v_abs, v_int, v_listL, v_listT, v_tupleL, v_tupleT, v_max2, v_min2, v_isa, Option.bind_some, List.set_cons_zero, List.set_cons_succ, List.length_cons, List.length_nil, if_true, if_false, reduceIte, Bool.false_eq_true, decide_true, decide_false, isOwn])
  | `(tactic| simp! [$ls,*]) => `(tactic| simp only [slot_z, slot_1, slot_2, slot_3, slot_4, slot_5, slot_6, slot_7, slot_8, slot_9, slot_10, slot_11, slot_12, q_var, q_frz, q_cst, q_op, q_call, q_callK, q_tup, q_lst, q_ite, q_and, q_or, q_not, q_chain, q_pop, q_exAt, es_nil, es_cons, ks_nil, ks_cons, t_and, t_or, t_not, t_op, t_var, t_call, t_callK, t_chain, t_cst, c_yes, c_one, b_ok, b_exc, o_ok, o_exc, of_some, g_val, g_new, g_ref, gs_nil, gs_cons, k_val, k_new, tk_val, tk_new, tk_deal, gv_val, gv_new, gv_ref, m_val, m_new, p_nm, p_tp, p_tpp, putD_nil, putD_cons, putM_nil, putM_cons, put_def, free_def, ts_nil, ts_cons, t1_ok, t1_exc, tr_bl, tr_non, ss_nil, ss_cons, s_asg, s_par, s_aug, s_app, s_ext, s_pop, s_expr, s_doc, s_ret, s_retN, s_pass, s_brk, s_cnt, s_ite, s_raise, s_setix, s_ins, i_seq, i_rg1, i_rg2, i_enum, i_zip, i_rev, sq_lst, sq_tup, wl_vs, v_add, v_sub, v_neg, v_lt, v_le, v_gt, v_ge, v_isN, v_notN, v_isB, v_notB, v_rev, v_lenL, v_lenT, v_abs, v_int, v_listL, v_listT, v_tupleL, v_tupleT, v_max2, v_min2, v_isa, Option.bind_some, List.set_cons_zero, List.set_cons_succ, List.length_cons, List.length_nil, if_true, if_false, reduceIte, Bool.false_eq_true, decide_true, decide_false, isOwn, $ls,*])
local macro_rules
  | `(tactic| simp_arith!) => `(tactic| simp (config := { dsimp := false, implicitDefEqProofs := false }) only [↓wp_bind, ↓wp_o, ↓wo_cons, ↓wp_test1, ↓wp_ok, ↓w_op, ↓w_call, ↓w_callK, ↓w_tup, ↓w_lst, ↓w_ite, ↓w_es_nil, ↓w_es, ↓w_ks_nil, ↓w_ks, keptQ_val, keptQ_new, ↓w_and, ↓w_or, ↓w_not, ↓w_top, ↓w_tvar, ↓w_tcall, ↓w_tcallK, ↓w_teqR, ↓w_asg, ↓w_ret, ↓w_site, ↓w_expr, ↓w_par, ↓w_eqR, slot_z, slot_1, slot_2, slot_3, slot_4, slot_5, slot_6, slot_7, slot_8, slot_9, slot_10, slot_11, slot_12, q_var, q_frz, q_cst, q_op, q_call, q_callK, q_tup, q_lst, q_ite, q_and, q_or, q_not, q_chain, q_pop, q_exAt, es_nil, es_cons, ks_nil, ks_cons, t_and, t_or, t_not, t_op, t_var, t_call, t_callK, t_chain, t_cst, t_eqR, q_eqR, c_yes, c_one, b_ok, b_exc, o_ok, o_exc, of_some, g_val, g_new, g_ref, gs_nil, gs_cons, k_val, k_new, tk_val, tk_new, tk_deal, gv_val, gv_new, gv_ref, m_val, m_new, p_nm, p_tp, p_tpp, putD_nil, putD_cons, putM_nil, putM_cons, put_def, free_def, ts_nil, ts_cons, t1_ok, t1_exc, tr_bl, tr_non, ss_nil, s_asg, s_par, s_aug, s_app, s_ext, s_pop, s_expr, s_doc, s_ret, s_retN, s_pass, s_brk, s_cnt, s_ite, s_raise, s_setix, s_ins, i_seq, i_rg1, i_rg2, i_enum, i_zip, i_rev, sq_lst, sq_tup, wl_vs, v_add, v_sub, v_neg, v_lt, v_le, v_gt, v_ge, v_isN, v_notN, v_isB, v_notB, v_rev, v_lenL, v_lenT, v_abs, v_int, v_listL, v_listT, v_tupleL, v_tupleT, v_max2, v_min2, v_isa, Option.bind_some, List.set_cons_zero, List.set_cons_succ, List.length_cons, List.length_nil, if_true, if_false, reduceIte, Bool.false_eq_true, Bool.true_eq_false, decide_true, decide_false, isOwn, wp_ok, wp_exc, wp_bind, wp_o, wp_ite, wo_ite, wo_nx, wo_rt, wo_bk, wo_ct, wo_exc, wo_cons, wp_test1, tst_mk, v_eqI, v_neI, decide_eq_true_eq, Bool.not_eq_true', decide_eq_false_iff_not, Nat.reduceAdd, Nat.reduceLT, Nat.reduceLeDiff, Nat.zero_add, and_true, true_and])
  | `(tactic| simp_arith! [$ls,*]) => `(tactic| simp (config := { dsimp := false, implicitDefEqProofs := false }) only [↓wp_bind, ↓wp_o, ↓wo_cons, ↓wp_test1, ↓wp_ok, ↓w_op, ↓w_call, ↓w_callK, ↓w_tup, ↓w_lst, ↓w_ite, ↓w_es_nil, ↓w_es, ↓w_ks_nil, ↓w_ks, keptQ_val, keptQ_new, ↓w_and, ↓w_or, ↓w_not, ↓w_top, ↓w_tvar, ↓w_tcall, ↓w_tcallK, ↓w_teqR, ↓w_asg, ↓w_ret, ↓w_site, ↓w_expr, ↓w_par, ↓w_eqR, slot_z, slot_1, slot_2, slot_3, slot_4, slot_5, slot_6, slot_7, slot_8, slot_9, slot_10, slot_11, slot_12, q_var, q_frz, q_cst, q_op, q_call, q_callK, q_tup, q_lst, q_ite, q_and, q_or, q_not, q_chain, q_pop, q_exAt, es_nil, es_cons, ks_nil, ks_cons, t_and, t_or, t_not, t_op, t_var, t_call, t_callK, t_chain, t_cst, t_eqR, q_eqR, c_yes, c_one, b_ok, b_exc, o_ok, o_exc, of_some, g_val, g_new, g_ref, gs_nil, gs_cons, k_val, k_new, tk_val, tk_new, tk_deal, gv_val, gv_new, gv_ref, m_val, m_new, p_nm, p_tp, p_tpp, putD_nil, putD_cons, putM_nil, putM_cons, put_def, free_def, ts_nil, ts_cons, t1_ok, t1_exc, tr_bl, tr_non, ss_nil, s_asg, s_par, s_aug, s_app, s_ext, s_pop, s_expr, s_doc, s_ret, s_retN, s_pass, s_brk, s_cnt, s_ite, s_raise, s_setix, s_ins, i_seq, i_rg1, i_rg2, i_enum, i_zip, i_rev, sq_lst, sq_tup, wl_vs, v_add, v_sub, v_neg, v_lt, v_le, v_gt, v_ge, v_isN, v_notN, v_isB, v_notB, v_rev, v_lenL, v_lenT, v_abs, v_int, v_listL, v_listT, v_tupleL, v_tupleT, v_max2, v_min2, v_isa, Option.bind_some, List.set_cons_zero, List.set_cons_succ, List.length_cons, List.length_nil, if_true, if_false, reduceIte, Bool.false_eq_true, Bool.true_eq_false, decide_true, decide_false, isOwn, wp_ok, wp_exc, wp_bind, wp_o, wp_ite, wo_ite, wo_nx, wo_rt, wo_bk, wo_ct, wo_exc, wo_cons, wp_test1, tst_mk, v_eqI, v_neI, decide_eq_true_eq, Bool.not_eq_true', decide_eq_false_iff_not, Nat.reduceAdd, Nat.reduceLT, Nat.reduceLeDiff, Nat.zero_add, and_true, true_and, $ls,*])
def top (i : Nat) : Stmt := PySem.Challenge.pw_bodyforbody_k05_whole_falling_rows.main.body.getD i (.Pass ⟨0, 0, 0, 0⟩)
abbrev st_is_number : Stmt := top 4
abbrev st_is_tuple_of : Stmt := top 5
abbrev st_is_ascending : Stmt := top 6
abbrev st_is_run : Stmt := top 8
abbrev st_has_form : Stmt := top 9
abbrev st_tells : Stmt := top 10
abbrev st_is_falling : Stmt := top 11
abbrev st_checked_falling : Stmt := top 12
abbrev st_has : Stmt := top 13
abbrev st__law_draw : Stmt := top 15
abbrev st__law_any : Stmt := top 16
abbrev st__law_of : Stmt := top 17
abbrev st__law_in : Stmt := top 18
abbrev st__law_euclid : Stmt := top 19
abbrev st__law_row : Stmt := top 20
abbrev st__law_is_number : Stmt := top 21
abbrev st__law_is_falling : Stmt := top 22
abbrev st__law_near : Stmt := top 23
abbrev st__law_count : Stmt := top 24
abbrev st__law_refused : Stmt := top 25
abbrev st_law : Stmt := top 26
structure Glob (K : PySem.W.Frag) (mg : Str → Option Value) (cl fa : Nat → Addr) (fd : Nat → FuncData) : Prop where
  F0 : Fun K "is_number" "is_number" st_is_number (fa 0) (fd 0)
  m0 : mg "is_number" = some (.ref (fa 0))
  F1 : Fun K "is_tuple_of" "is_tuple_of" st_is_tuple_of (fa 1) (fd 1)
  m1 : mg "is_tuple_of" = some (.ref (fa 1))
  F2 : Fun K "is_ascending" "is_ascending" st_is_ascending (fa 2) (fd 2)
  m2 : mg "is_ascending" = some (.ref (fa 2))
  F3 : Fun K "is_run" "is_run" st_is_run (fa 3) (fd 3)
  m3 : mg "is_run" = some (.ref (fa 3))
  F4 : Fun K "has_form" "has_form" st_has_form (fa 4) (fd 4)
  m4 : mg "has_form" = some (.ref (fa 4))
  F5 : Fun K "tells" "tells" st_tells (fa 5) (fd 5)
  m5 : mg "tells" = some (.ref (fa 5))
  F6 : Fun K "is_falling" "is_falling" st_is_falling (fa 6) (fd 6)
  m6 : mg "is_falling" = some (.ref (fa 6))
  F7 : FunD K "checked_falling" "checked_falling" (defArgs st_checked_falling) (defBody st_checked_falling) (defScope st_checked_falling) [.int 0] [] (fa 7) (fd 7)
  m7 : mg "checked_falling" = some (.ref (fa 7))
  F8 : Fun K "has" "has" st_has (fa 8) (fd 8)
  m8 : mg "has" = some (.ref (fa 8))
  F9 : Fun K "_law_draw" "_law_draw" st__law_draw (fa 9) (fd 9)
  m9 : mg "_law_draw" = some (.ref (fa 9))
  F10 : Fun K "_law_any" "_law_any" st__law_any (fa 10) (fd 10)
  m10 : mg "_law_any" = some (.ref (fa 10))
  F11 : Fun K "_law_of" "_law_of" st__law_of (fa 11) (fd 11)
  m11 : mg "_law_of" = some (.ref (fa 11))
  F12 : Fun K "_law_in" "_law_in" st__law_in (fa 12) (fd 12)
  m12 : mg "_law_in" = some (.ref (fa 12))
  F13 : Fun K "_law_euclid" "_law_euclid" st__law_euclid (fa 13) (fd 13)
  m13 : mg "_law_euclid" = some (.ref (fa 13))
  F14 : Fun K "_law_row" "_law_row" st__law_row (fa 14) (fd 14)
  m14 : mg "_law_row" = some (.ref (fa 14))
  F15 : Fun K "_law_is_number" "_law_is_number" st__law_is_number (fa 15) (fd 15)
  m15 : mg "_law_is_number" = some (.ref (fa 15))
  F16 : Fun K "_law_is_falling" "_law_is_falling" st__law_is_falling (fa 16) (fd 16)
  m16 : mg "_law_is_falling" = some (.ref (fa 16))
  F17 : Fun K "_law_near" "_law_near" st__law_near (fa 17) (fd 17)
  m17 : mg "_law_near" = some (.ref (fa 17))
  F18 : Fun K "_law_count" "_law_count" st__law_count (fa 18) (fd 18)
  m18 : mg "_law_count" = some (.ref (fa 18))
  F19 : Fun K "_law_refused" "_law_refused" st__law_refused (fa 19) (fd 19)
  m19 : mg "_law_refused" = some (.ref (fa 19))
  F20 : Fun K "law" "law" st_law (fa 20) (fd 20)
  m20 : mg "law" = some (.ref (fa 20))
  b0 : Binds K (fd 0) ["value"] []
  b1 : Binds K (fd 1) ["value", "size"] []
  b2 : Binds K (fd 2) ["values"] []
  b3 : Binds K (fd 3) ["value"] []
  b4 : Binds K (fd 4) ["value"] []
  b5 : Binds K (fd 5) ["runs", "end", "count"] []
  b6 : Binds K (fd 6) ["value"] []
  b8 : Binds K (fd 8) ["falling", "count"] []
  b9 : Binds K (fd 9) ["script", "salt"] []
  b10 : Binds K (fd 10) ["deal", "bound"] []
  b11 : Binds K (fd 11) ["deal", "some"] []
  b12 : Binds K (fd 12) ["row", "count"] []
  b13 : Binds K (fd 13) ["counts"] []
  b14 : Binds K (fd 14) ["deal"] []
  b15 : Binds K (fd 15) ["value"] []
  b16 : Binds K (fd 16) ["value"] []
  b17 : Binds K (fd 17) ["deal", "row"] []
  b18 : Binds K (fd 18) ["deal", "row"] []
  b19 : Binds K (fd 19) ["value"] []
  b7_1 : ∃ ds, Vals [.int 0] ds ∧ Binds K (fd 7) ["value", "at"] ds
  n_abs : mg "abs" = none
  n_all : mg "all" = none
  n_bool : mg "bool" = none
  n_enumerate : mg "enumerate" = none
  n_int : mg "int" = none
  n_isinstance : mg "isinstance" = none
  n_len : mg "len" = none
  n_list : mg "list" = none
  n_max : mg "max" = none
  n_min : mg "min" = none
  n_range : mg "range" = none
  n_repr : mg "repr" = none
  n_reversed : mg "reversed" = none
  n_set : mg "set" = none
  n_sorted : mg "sorted" = none
  n_sum : mg "sum" = none
  n_tuple : mg "tuple" = none
  n_zip : mg "zip" = none
  c4 : ∃ f, At.Txt K mg "InvalidQuestion" "InvalidQuestion.__init__" (cl 4) f
  x4 : mg "InvalidQuestion" = some (.ref (cl 4))
  h4 : (∀ k ∈ ([4] : List Nat), PySem.W.exmOne K (.ref (cl k)) (.ref (cl 4)) = some true) ∧ (∀ k ∈ ([] : List Nat), PySem.W.exmOne K (.ref (cl k)) (.ref (cl 4)) = some false)
  e4 : ∀ k ∈ ([4] : List Nat), ∃ nm qi f, At.Txt K mg nm qi (cl k) f
  k8_count_falling : Named K (fd 8) ["falling", "count"] ["count", "falling"] [1, 0]
  k6_value : Named K (fd 6) ["value"] ["value"] [0]
section
variable {P : Program} {w : World} {K : PySem.W.Frag} {mg : Str → Option Value} {base : Heap} {cl fa : Nat → Addr} {fd : Nat → FuncData}
theorem sc_is_number : FnScope ["value"] ["value"] (defScope st_is_number) := ⟨rfl, rfl, rfl, by decide +kernel, rfl, by decide +kernel, by decide +kernel⟩
def m_is_number : List M → RF := denF (rs []) 1 1
  (.cons (.ret (.and (.op (.isa .tInt) (.cons (.var 0) .nil)) (.and (.not (.op (.isa .tBool) (.cons (.var 0) .nil))) (.op .ge (.cons (.var 0) (.cons (.cst (.int 0)) .nil)))))) .nil)
theorem ok_is_number (T : Glob K mg cl fa fd) : FnG P w K mg base 1 (fa 0) (fd 0) ["value"] (spM cl m_is_number) :=
  fn_ok (r := rs []) (.of T.F0) sc_is_number rfl rfl fun cd A outer s H E hr gd =>
    (js_cons (js_ret (je_and (je_isa (t := .tInt) (hg := rfl) (hm := T.n_isinstance) (hg2 := rfl) (hm2 := T.n_int) (hv2 := PyProof.Rows.boot_int) (ha := (je_var (i := 0)))) (je_and (je_not (je_isa (t := .tBool) (hg := rfl) (hm := T.n_isinstance) (hg2 := rfl) (hm2 := T.n_bool) (hv2 := PyProof.Rows.boot_bool) (ha := (je_var (i := 0))))) (je_and1 (je_ge (je_var (i := 0)) je_int))))) js_nil)
theorem sc_is_tuple_of : FnScope ["value", "size"] ["value", "size"] (defScope st_is_tuple_of) := ⟨rfl, rfl, rfl, by decide +kernel, rfl, by decide +kernel, by decide +kernel⟩
def m_is_tuple_of : List M → RF := denF (rs [(0, m_is_number)]) 2 2
  (.cons (.ret (.and (.op (.isa .tTuple) (.cons (.var 0) .nil)) (.op .eq (.cons (.op .len (.cons (.var 0) .nil)) (.cons (.var 1) .nil))))) .nil)
theorem ok_is_tuple_of (T : Glob K mg cl fa fd) : FnG P w K mg base 1 (fa 1) (fd 1) ["value", "size"] (spM cl m_is_tuple_of) :=
  fn_ok (r := rs [(0, m_is_number)]) (.of T.F1) sc_is_tuple_of rfl rfl fun cd A outer s H E hr gd =>
    (js_cons (js_ret (je_and (je_isa (t := .tTuple) (hg := rfl) (hm := T.n_isinstance) (hg2 := rfl) (hm2 := T.n_tuple) (hv2 := PyProof.Rows.boot_tuple) (ha := (je_var (i := 0)))) (je_and1 (je_eq hr (je_call1 call_len_seq sp_len rfl T.n_len boot_len (je_var (i := 0))) (je_var (i := 1)))))) js_nil)
theorem sc_is_ascending : FnScope ["values", "low", "high"] ["values"] (defScope st_is_ascending) := ⟨rfl, rfl, rfl, by decide +kernel, rfl, by decide +kernel, by decide +kernel⟩
def m_is_ascending : List M → RF := denF (rs [(0, m_is_number), (1, m_is_tuple_of)]) 1 3
  (.cons (.ret (.op .all (.cons (.comp (.tp [1, 2]) [1, 2] (.zip (.frz 0) (.op (.sl true false) (.cons (.var 0) (.cons (.cst (.int 1)) .nil)))) .yes (.op .lt (.cons (.var 1) (.cons (.var 2) .nil)))) .nil))) .nil)
theorem ok_is_ascending (T : Glob K mg cl fa fd) : FnG P w K mg base 1 (fa 2) (fd 2) ["values"] (spM cl m_is_ascending) :=
  fn_ok (r := rs [(0, m_is_number), (1, m_is_tuple_of)]) (.of T.F2) sc_is_ascending rfl rfl fun cd A outer s H E hr gd =>
    (js_cons (js_ret (je_call1 (cr_all rfl) sp_all rfl T.n_all PyProof.Rows.boot_all (je_comp (own := [("low", 1), ("high", 2)]) rfl sc_is_ascending.nd (ji_zip rfl T.n_zip (je_frz (i := 0)) (je_sl10 (je_var (i := 0)) je_int)) (blkOk_by rfl) (fun _ _ _ _ _ => (pg_tup rfl (pgs_cons (pg_name (i := 1) sc_is_ascending.nd rfl (by first | exact .inl rfl | exact .inr rfl)) (pgs_cons (pg_name (i := 2) sc_is_ascending.nd rfl (by first | exact .inl rfl | exact .inr rfl)) pgs_nil)))) (fun _ _ _ _ _ => jc_yes) (fun _ _ _ _ _ => (je_lt (je_var (i := 1)) (je_var (i := 2))))))) js_nil)
theorem sc_is_run : FnScope ["value", "number"] ["value"] (defScope st_is_run) := ⟨rfl, rfl, rfl, by decide +kernel, rfl, by decide +kernel, by decide +kernel⟩
def m_is_run : List M → RF := denF (rs [(0, m_is_number), (1, m_is_tuple_of), (2, m_is_ascending)]) 1 2
  (.cons (.ret (.and (.call 1 (.cons (.frz 0) (.cons (.cst (.int 2)) .nil))) (.op .all (.cons (.comp (.nm 1) [1] (.seq (.var 0)) .yes (.and (.call 0 (.cons (.frz 1) .nil)) (.op .gt (.cons (.var 1) (.cons (.cst (.int 0)) .nil))))) .nil)))) .nil)
theorem ok_is_run (T : Glob K mg cl fa fd) : FnG P w K mg base 2 (fa 3) (fd 3) ["value"] (spM cl m_is_run) :=
  fn_ok (r := rs [(0, m_is_number), (1, m_is_tuple_of), (2, m_is_ascending)]) (.of T.F3) sc_is_run rfl rfl fun cd A outer s H E hr gd =>
    (js_cons (js_ret (je_and (je_callG (fi := 1) (ok_is_tuple_of T) (hr.mono (by decide)) gd T.m1 T.F1.kp T.b1 (takes_of rfl rfl rfl rfl) (ja_cons (je_frz (i := 0)) (ja_cons je_int ja_nil))) (je_and1 (je_call1 (cr_all rfl) sp_all rfl T.n_all PyProof.Rows.boot_all (je_comp (own := [("number", 1)]) rfl sc_is_run.nd (ji_seq (je_var (i := 0))) (blkOk_by rfl) (fun _ _ _ _ _ => (pg_name (i := 1) sc_is_run.nd rfl (by first | exact .inl rfl | exact .inr rfl))) (fun _ _ _ _ _ => jc_yes) (fun _ _ _ _ _ => (je_and (je_callG (fi := 0) (ok_is_number T) (hr.mono (by decide)) gd T.m0 T.F0.kp T.b0 takes0 (ja_cons (je_frz (i := 1)) ja_nil)) (je_and1 (je_gt (je_var (i := 1)) je_int))))))))) js_nil)
theorem sc_has_form : FnScope ["value", "run"] ["value"] (defScope st_has_form) := ⟨rfl, rfl, rfl, by decide +kernel, rfl, by decide +kernel, by decide +kernel⟩
def m_has_form : List M → RF := denF (rs [(0, m_is_number), (1, m_is_tuple_of), (2, m_is_ascending), (3, m_is_run)]) 1 2
  (.cons (.ite (.or (.not (.call 1 (.cons (.frz 0) (.cons (.cst (.int 2)) .nil)))) (.or (.not (.op (.isa .tTuple) (.cons (.op .ix (.cons (.var 0) (.cons (.cst (.int 0)) .nil))) .nil))) (.not (.call 0 (.cons (.op .ix (.cons (.var 0) (.cons (.cst (.int 1)) .nil))) .nil))))) (.cons (.ret (.cst (.bl false))) .nil) .nil) (.cons (.ret (.and (.op .all (.cons (.comp (.nm 1) [1] (.seq (.op .ix (.cons (.var 0) (.cons (.cst (.int 0)) .nil)))) .yes (.call 3 (.cons (.frz 1) .nil))) .nil)) (.or (.op .gt (.cons (.op .ix (.cons (.var 0) (.cons (.cst (.int 1)) .nil))) (.cons (.cst (.int 0)) .nil))) (.op .eq (.cons (.op .len (.cons (.op .ix (.cons (.var 0) (.cons (.cst (.int 0)) .nil))) .nil)) (.cons (.cst (.int 0)) .nil)))))) .nil))
theorem ok_has_form (T : Glob K mg cl fa fd) : FnG P w K mg base 3 (fa 4) (fd 4) ["value"] (spM cl m_has_form) :=
  fn_ok (r := rs [(0, m_is_number), (1, m_is_tuple_of), (2, m_is_ascending), (3, m_is_run)]) (.of T.F4) sc_has_form rfl rfl fun cd A outer s H E hr gd =>
    (js_cons (js_if (PW.pt (jw_or (jt_not (jt_val (je_callG (fi := 1) (ok_is_tuple_of T) (hr.mono (by decide)) gd T.m1 T.F1.kp T.b1 (takes_of rfl rfl rfl rfl) (ja_cons (je_frz (i := 0)) (ja_cons je_int ja_nil))))) (jw_or (jt_not (jt_val (je_isa (t := .tTuple) (hg := rfl) (hm := T.n_isinstance) (hg2 := rfl) (hm2 := T.n_tuple) (hv2 := PyProof.Rows.boot_tuple) (ha := (je_ix (je_var (i := 0)) je_int))))) (jw_or1 (jt_not (jt_val (je_callG (fi := 0) (ok_is_number T) (hr.mono (by decide)) gd T.m0 T.F0.kp T.b0 (takes_of rfl rfl rfl rfl) (ja_cons (je_ix (je_var (i := 0)) je_int) ja_nil)))))))) (js_cons (js_ret je_bl) js_nil) js_nil) (js_cons (js_ret (je_and (je_call1 (cr_all rfl) sp_all rfl T.n_all PyProof.Rows.boot_all (je_comp (own := [("run", 1)]) rfl sc_has_form.nd (ji_seq (je_ix (je_var (i := 0)) je_int)) (blkOk_by rfl) (fun _ _ _ _ _ => (pg_name (i := 1) sc_has_form.nd rfl (by first | exact .inl rfl | exact .inr rfl))) (fun _ _ _ _ _ => jc_yes) (fun _ _ _ _ _ => (je_callG (fi := 3) (ok_is_run T) (hr.mono (by decide)) gd T.m3 T.F3.kp T.b3 takes0 (ja_cons (je_frz (i := 1)) ja_nil))))) (je_and1 (je_or (je_gt (je_ix (je_var (i := 0)) je_int) je_int) (je_or1 (je_eq hr (je_call1 call_len_seq sp_len rfl T.n_len boot_len (je_ix (je_var (i := 0)) je_int)) je_int)))))) js_nil))
theorem sc_tells : FnScope ["runs", "end", "count", "base", "step", "times"] ["runs", "end", "count"] (defScope st_tells) := ⟨rfl, rfl, rfl, by decide +kernel, rfl, by decide +kernel, by decide +kernel⟩
def m_tells : List M → RF := denF (rs [(0, m_is_number), (1, m_is_tuple_of), (2, m_is_ascending), (3, m_is_run), (4, m_has_form)]) 3 6
  (.cons (.asg (.nm 3) (.cst (.int 0))) (.cons (.for_ (.tp [4, 5]) (.seq (.var 0)) (.cons (.ite (.op .le (.cons (.var 2) (.cons (.op .add (.cons (.var 3) (.cons (.op .mul (.cons (.var 4) (.cons (.var 5) .nil))) .nil))) .nil))) (.cons (.ret (.op .eq (.cons (.op .mod (.cons (.op .sub (.cons (.var 2) (.cons (.var 3) .nil))) (.cons (.var 4) .nil))) (.cons (.cst (.int 0)) .nil)))) .nil) .nil) (.cons (.aug .add 3 (.op .mul (.cons (.var 4) (.cons (.var 5) .nil)))) .nil))) (.cons (.ite (.op .eq (.cons (.var 1) (.cons (.cst (.int 0)) .nil))) (.cons (.ret (.op .eq (.cons (.var 2) (.cons (.var 3) .nil)))) .nil) .nil) (.cons (.ret (.op .eq (.cons (.op .mod (.cons (.op .sub (.cons (.var 2) (.cons (.var 3) .nil))) (.cons (.var 1) .nil))) (.cons (.cst (.int 0)) .nil)))) .nil))))
theorem ok_tells (T : Glob K mg cl fa fd) : FnG P w K mg base 1 (fa 5) (fd 5) ["runs", "end", "count"] (spM cl m_tells) :=
  fn_ok (r := rs [(0, m_is_number), (1, m_is_tuple_of), (2, m_is_ascending), (3, m_is_run), (4, m_has_form)]) (.of T.F5) sc_tells rfl rfl fun cd A outer s H E hr gd =>
    (js_cons (js_set (i := 3) sc_tells.nd je_int) (js_cons (js_for (passes_of rfl) rfl (ji_seq (je_var (i := 0))) (pg_tup rfl (pgs_cons (pg_name (i := 4) sc_tells.nd rfl (by first | exact .inl rfl | exact .inr rfl)) (pgs_cons (pg_name (i := 5) sc_tells.nd rfl (by first | exact .inl rfl | exact .inr rfl)) pgs_nil))) (js_cons (js_if (jt_le (je_var (i := 2)) (je_add (je_var (i := 3)) (je_mul (je_var (i := 4)) (je_var (i := 5))))) (js_cons (js_ret (je_eq hr (je_mod (je_sub (je_var (i := 2)) (je_var (i := 3))) (je_var (i := 4))) je_int)) js_nil) js_nil) (js_cons (js_aug (i := 3) sc_tells.nd iop_add spI_add (je_mul (je_var (i := 4)) (je_var (i := 5)))) js_nil))) (js_cons (js_if (jt_eq hr (je_var (i := 1)) je_int) (js_cons (js_ret (je_eq hr (je_var (i := 2)) (je_var (i := 3)))) js_nil) js_nil) (js_cons (js_ret (je_eq hr (je_mod (je_sub (je_var (i := 2)) (je_var (i := 3))) (je_var (i := 1))) je_int)) js_nil))))
theorem sc_is_falling : FnScope ["value", "runs", "end", "rising", "run", "at"] ["value"] (defScope st_is_falling) := ⟨rfl, rfl, rfl, by decide +kernel, rfl, by decide +kernel, by decide +kernel⟩
def m_is_falling : List M → RF := denF (rs [(0, m_is_number), (1, m_is_tuple_of), (2, m_is_ascending), (3, m_is_run), (4, m_has_form), (5, m_tells)]) 1 6
  (.cons (.ite (.not (.call 4 (.cons (.frz 0) .nil))) (.cons (.ret (.cst (.bl false))) .nil) .nil) (.cons (.asg (.tp [1, 2]) (.frz 0)) (.cons (.asg (.nm 3) (.op .add (.cons (.lst (.cons (.frz 2) .nil)) (.cons (.comp (.nm 4) [4] (.rev (.frz 1)) .yes (.op .ix (.cons (.var 4) (.cons (.cst (.int 0)) .nil)))) .nil)))) (.cons (.ite (.not (.call 2 (.cons (.frz 3) .nil))) (.cons (.ret (.cst (.bl false))) .nil) .nil) (.cons (.ret (.op .all (.cons (.comp (.tp [5, 4]) [5, 4] (.enum (.var 1)) .yes (.call 5 (.cons (.op (.sl true false) (.cons (.var 1) (.cons (.op .add (.cons (.var 5) (.cons (.cst (.int 1)) .nil))) .nil))) (.cons (.frz 2) (.cons (.op .ix (.cons (.var 4) (.cons (.cst (.int 0)) .nil))) .nil))))) .nil))) .nil)))))
theorem ok_is_falling (T : Glob K mg cl fa fd) : FnG P w K mg base 4 (fa 6) (fd 6) ["value"] (spM cl m_is_falling) :=
  fn_ok (r := rs [(0, m_is_number), (1, m_is_tuple_of), (2, m_is_ascending), (3, m_is_run), (4, m_has_form), (5, m_tells)]) (.of T.F6) sc_is_falling rfl rfl fun cd A outer s H E hr gd =>
    (js_cons (js_if (jt_not (jt_val (je_callG (fi := 4) (ok_has_form T) (hr.mono (by decide)) gd T.m4 T.F4.kp T.b4 (takes_of rfl rfl rfl rfl) (ja_cons (je_frz (i := 0)) ja_nil)))) (js_cons (js_ret je_bl) js_nil) js_nil) (js_cons (js_asg (je_frz (i := 0)) (pg_tup rfl (pgs_cons (pg_name (i := 1) sc_is_falling.nd rfl (by first | exact .inl rfl | exact .inr rfl)) (pgs_cons (pg_name (i := 2) sc_is_falling.nd rfl (by first | exact .inl rfl | exact .inr rfl)) pgs_nil)))) (js_cons (js_set (i := 3) sc_is_falling.nd (je_add (je_lst (jk_cons (je_frz (i := 2)) jk_nil)) (je_comp (own := [("run", 4)]) rfl sc_is_falling.nd (ji_rev rfl T.n_reversed (je_frz (i := 1))) (blkOk_by rfl) (fun _ _ _ _ _ => (pg_name (i := 4) sc_is_falling.nd rfl (by first | exact .inl rfl | exact .inr rfl))) (fun _ _ _ _ _ => jc_yes) (fun _ _ _ _ _ => (je_ix (je_var (i := 4)) je_int))))) (js_cons (js_if (jt_not (jt_val (je_callG (fi := 2) (ok_is_ascending T) (hr.mono (by decide)) gd T.m2 T.F2.kp T.b2 (takes_of rfl rfl rfl rfl) (ja_cons (je_frz (i := 3)) ja_nil)))) (js_cons (js_ret je_bl) js_nil) js_nil) (js_cons (js_ret (je_call1 (cr_all rfl) sp_all rfl T.n_all PyProof.Rows.boot_all (je_comp (own := [("at", 5), ("run", 4)]) rfl sc_is_falling.nd (ji_enum rfl T.n_enumerate (je_var (i := 1))) (blkOk_by rfl) (fun _ _ _ _ _ => (pg_tup rfl (pgs_cons (pg_name (i := 5) sc_is_falling.nd rfl (by first | exact .inl rfl | exact .inr rfl)) (pgs_cons (pg_name (i := 4) sc_is_falling.nd rfl (by first | exact .inl rfl | exact .inr rfl)) pgs_nil)))) (fun _ _ _ _ _ => jc_yes) (fun _ _ _ _ _ => (je_callG (fi := 5) (ok_tells T) (hr.mono (by decide)) gd T.m5 T.F5.kp T.b5 takes0 (ja_cons (je_sl10 (je_var (i := 1)) (je_add (je_var (i := 5)) je_int)) (ja_cons (je_frz (i := 2)) (ja_cons (je_ix (je_var (i := 4)) je_int) ja_nil)))))))) js_nil)))))
theorem sc_checked_falling : FnScope ["value", "at"] ["value", "at"] (defScope st_checked_falling) := ⟨rfl, rfl, rfl, by decide +kernel, rfl, by decide +kernel, by decide +kernel⟩
def m_checked_falling : List M → RF := denF (rs [(0, m_is_number), (1, m_is_tuple_of), (2, m_is_ascending), (3, m_is_run), (4, m_has_form), (5, m_tells), (6, m_is_falling)]) 2 2
  (.cons (.ite (.not (.call 6 (.cons (.frz 0) .nil))) (.cons (.raise 4 (.frz 1)) .nil) .nil) (.cons (.ret (.var 0)) .nil))
theorem ok_checked_falling (T : Glob K mg cl fa fd) : FnG P w K mg base 5 (fa 7) (fd 7) ["value", "at"] (spM cl m_checked_falling) :=
  fn_ok (r := rs [(0, m_is_number), (1, m_is_tuple_of), (2, m_is_ascending), (3, m_is_run), (4, m_has_form), (5, m_tells), (6, m_is_falling)]) (.ofD T.F7) sc_checked_falling rfl rfl fun cd A outer s H E hr gd =>
    (js_cons (js_if (jt_not (jt_val (je_callG (fi := 6) (ok_is_falling T) (hr.mono (by decide)) gd T.m6 T.F6.kp T.b6 (takes_of rfl rfl rfl rfl) (ja_cons (je_frz (i := 0)) ja_nil)))) (js_cons (js_raise rfl (takes_of rfl rfl rfl rfl) T.c4.choose_spec hr (je_frz (i := 1)) rfl) js_nil) js_nil) (js_cons (js_ret (je_var (i := 0))) js_nil))
theorem sc_has : FnScope ["falling", "count", "runs", "end"] ["falling", "count"] (defScope st_has) := ⟨rfl, rfl, rfl, by decide +kernel, rfl, by decide +kernel, by decide +kernel⟩
def m_has : List M → RF := denF (rs [(0, m_is_number), (1, m_is_tuple_of), (2, m_is_ascending), (3, m_is_run), (4, m_has_form), (5, m_tells), (6, m_is_falling), (7, m_checked_falling)]) 2 4
  (.cons (.asg (.tp [2, 3]) (.call 7 (Es.app (.cons (.frz 0) .nil) [.int 0]))) (.cons (.ret (.call 5 (.cons (.frz 2) (.cons (.frz 3) (.cons (.frz 1) .nil))))) .nil))
theorem ok_has (T : Glob K mg cl fa fd) : FnG P w K mg base 6 (fa 8) (fd 8) ["falling", "count"] (spM cl m_has) :=
  fn_ok (r := rs [(0, m_is_number), (1, m_is_tuple_of), (2, m_is_ascending), (3, m_is_run), (4, m_has_form), (5, m_tells), (6, m_is_falling), (7, m_checked_falling)]) (.of T.F8) sc_has rfl rfl fun cd A outer s H E hr gd =>
    (js_cons (js_asg (je_callD (fi := 7) (dds := [.int 0]) (ok_checked_falling T) (hr.mono (by decide)) gd T.m7 T.F7.kp T.b7_1 (fun F => (Reps.cons pInt Reps.nil)) (takes_of rfl rfl rfl rfl) (ja_cons (je_frz (i := 0)) ja_nil)) (pg_tup rfl (pgs_cons (pg_name (i := 2) sc_has.nd rfl (by first | exact .inl rfl | exact .inr rfl)) (pgs_cons (pg_name (i := 3) sc_has.nd rfl (by first | exact .inl rfl | exact .inr rfl)) pgs_nil)))) (js_cons (js_ret (je_callG (fi := 5) (ok_tells T) (hr.mono (by decide)) gd T.m5 T.F5.kp T.b5 (takes_of rfl rfl rfl rfl) (ja_cons (je_frz (i := 2)) (ja_cons (je_frz (i := 3)) (ja_cons (je_frz (i := 1)) ja_nil))))) js_nil))
theorem sc__law_draw : FnScope ["script", "salt", "cells", "blend", "cell"] ["script", "salt"] (defScope st__law_draw) := ⟨rfl, rfl, rfl, by decide +kernel, rfl, by decide +kernel, by decide +kernel⟩
theorem ok__law_draw (T : Glob K mg cl fa fd) : FnG P w K mg base 3 (fa 9) (fd 9) ["script", "salt"] (spD K) :=
  draw_ok (k := 2) (cl := cl) (r := rs []) (.of T.F9) sc__law_draw fun cd A outer s H E ds hr gd =>
    pss_cons (js_first (ds := ds) (own := [("cell", 4)]) (i := 2) rfl sc__law_draw.nd rfl rfl (sw_true rfl rfl rfl rfl) rfl (by first | exact .inl rfl | exact .inr (.inl rfl) | exact .inr (.inr rfl)) (by decide) (by decide) (blkOk_by rfl) (fun _ _ _ _ _ => (pg_name (i := 4) sc__law_draw.nd rfl (by first | exact .inl rfl | exact .inr rfl))) (fun _ _ _ _ _ => jc_yes) (fun _ _ _ _ _ => (je_call1 call_abs sp_abs rfl T.n_abs PyProof.Rows.boot_abs (je_ty1 call_int1 sp_int rfl T.n_int PyProof.Rows.boot_int (je_var (i := 4)))))) (pss_cons (js_set (i := 3) sc__law_draw.nd (je_add je_int (je_mul je_int (je_var (i := 1))))) (pss_cons (js_for (passes_of rfl) rfl (ji_seq (je_var (i := 2))) (pg_name (i := 4) sc__law_draw.nd rfl (by first | exact .inl rfl | exact .inr rfl)) (js_cons (js_set (i := 3) sc__law_draw.nd (je_mod (je_ty1 call_int1 sp_int rfl T.n_int PyProof.Rows.boot_int (je_add (je_add (je_mul (je_var (i := 3)) je_int) (je_mod (je_var (i := 4)) je_int)) je_int)) je_int)) js_nil)) (pss_cons (ps_ret (pe_lst (pa_cons (je_rev (je_comp (own := [("cell", 4)]) rfl sc__law_draw.nd (ji_seq (je_var (i := 2))) (blkOk_by rfl) (fun _ _ _ _ _ => (pg_name (i := 4) sc__law_draw.nd rfl (by first | exact .inl rfl | exact .inr rfl))) (fun _ _ _ _ _ => (jc_one (jt_ge (je_var (i := 4)) (je_pow je_int je_int)))) (fun _ _ _ _ _ => (je_frz (i := 4))))) (pa_cons (pv 3) pa_nil)))) pss_nil)))
theorem sc__law_any : FnScope ["deal", "bound", "rest"] ["deal", "bound"] (defScope st__law_any) := ⟨rfl, rfl, rfl, by decide +kernel, rfl, by decide +kernel, by decide +kernel⟩
def m__law_any : List M → RF := anyF
theorem ok__law_any (T : Glob K mg cl fa fd) : FnG P w K mg base 3 (fa 10) (fd 10) ["deal", "bound"] (spM cl m__law_any) :=
  any_ok (k := 2) (.of T.F10) sc__law_any fun cd A outer s H E hr gd => (pss_cons (ps_while (passes_of rfl) (PW.pt (pw_and (pt_cmpR (op_neD hr.units) (pe_ix ix_list (pv 0) pe_int (fun _ _ => rfl)) (pe_lst pa_nil) (nomark _)) (pw_and1 (pt_cmpR (op_eqD hr.units) (pe_ix ix_list (pe_ix ix_list (pv 0) pe_int (fun _ _ => rfl)) (pe_un un_neg pe_int) (fun _ _ => rfl)) pe_int (nomark _))))) (pss_cons (ps_expr (pe_bm0 PySem.F.plainAttrs_list PySem.F.slot_list_pop PySem.F.type_list_pop mt_pop (pe_ix ix_list (pv 0) pe_int (fun _ _ => rfl)))) pss_nil)) (pss_cons (ps_if (pt_cmpR (op_neD hr.units) (pe_ix ix_list (pv 0) pe_int (fun _ _ => rfl)) (pe_lst pa_nil) (nomark _)) (pss_cons (ps_set (i := 2) sc__law_any.nd rfl (by first | exact .inl rfl | exact .inr rfl) (pe_intOf rfl T.n_int (pe_bm0 PySem.F.plainAttrs_list PySem.F.slot_list_pop PySem.F.type_list_pop mt_pop (pe_ix ix_list (pv 0) pe_int (fun _ _ => rfl))))) (pss_cons (ps_expr (pe_bm PySem.F.plainAttrs_list PySem.F.slot_list_append PySem.F.type_list_append mt_append (pe_ix ix_list (pv 0) pe_int (fun _ _ => rfl)) (pa_cons (pe_op op_fdivW (pv 2) (pv 1)) pa_nil))) (pss_cons (ps_ret (pe_op op_mod (pv 2) (pv 1))) pss_nil))) pss_nil) (pss_cons (ps_asg (pe_op op_mod (pe_intOf rfl T.n_int (pe_op op_add (pe_op op_mulW (pe_ix ix_list (pv 0) pe_int (fun _ _ => rfl)) pe_int) pe_int)) pe_int) (pg_sub (pv 0) pe_int set_list (by intro _; rfl))) (pss_cons (ps_ret (pe_op op_mod (pe_intOf rfl T.n_int (pe_op op_fdivW (pe_ix ix_list (pv 0) pe_int (fun _ _ => rfl)) pe_int)) (pv 1))) pss_nil))))
theorem sc__law_of : FnScope ["deal", "some"] ["deal", "some"] (defScope st__law_of) := ⟨rfl, rfl, rfl, by decide +kernel, rfl, by decide +kernel, by decide +kernel⟩
def m__law_of : List M → RF := denF (rs [(0, m_is_number), (1, m_is_tuple_of), (2, m_is_ascending), (3, m_is_run), (4, m_has_form), (5, m_tells), (6, m_is_falling), (7, m_checked_falling), (8, m_has), (10, m__law_any)]) 2 2
  (.cons (.ret (.op .ix (.cons (.var 1) (.cons (.call 10 (.cons (.var 0) (.cons (.op .len (.cons (.var 1) .nil)) .nil))) .nil)))) .nil)
theorem ok__law_of (T : Glob K mg cl fa fd) : FnG P w K mg base 4 (fa 11) (fd 11) ["deal", "some"] (spM cl m__law_of) :=
  fn_ok (r := rs [(0, m_is_number), (1, m_is_tuple_of), (2, m_is_ascending), (3, m_is_run), (4, m_has_form), (5, m_tells), (6, m_is_falling), (7, m_checked_falling), (8, m_has), (10, m__law_any)]) (.of T.F11) sc__law_of rfl rfl fun cd A outer s H E hr gd =>
    (js_cons (js_ret (je_ix (je_var (i := 1)) (je_callG (fi := 10) (ok__law_any T) (hr.mono (by decide)) gd T.m10 T.F10.kp T.b10 (takes_of rfl rfl rfl rfl) (ja_cons (je_var (i := 0)) (ja_cons (je_call1 call_len_seq sp_len rfl T.n_len boot_len (je_var (i := 1))) ja_nil))))) js_nil)
theorem sc__law_in : FnScope ["row", "count", "at", "step", "times"] ["row", "count"] (defScope st__law_in) := ⟨rfl, rfl, rfl, by decide +kernel, rfl, by decide +kernel, by decide +kernel⟩
def m__law_in : List M → RF := denF (rs [(0, m_is_number), (1, m_is_tuple_of), (2, m_is_ascending), (3, m_is_run), (4, m_has_form), (5, m_tells), (6, m_is_falling), (7, m_checked_falling), (8, m_has), (10, m__law_any), (11, m__law_of)]) 2 5
  (.cons (.asg (.nm 2) (.cst (.int 0))) (.cons (.for_ (.tp [3, 4]) (.seq (.op .ix (.cons (.var 0) (.cons (.cst (.int 0)) .nil)))) (.cons (.ite (.op .le (.cons (.var 1) (.cons (.op .add (.cons (.var 2) (.cons (.op .mul (.cons (.var 3) (.cons (.var 4) .nil))) .nil))) .nil))) (.cons (.ret (.op .eq (.cons (.op .mod (.cons (.op .int (.cons (.op .sub (.cons (.var 1) (.cons (.var 2) .nil))) .nil)) (.cons (.var 3) .nil))) (.cons (.cst (.int 0)) .nil)))) .nil) .nil) (.cons (.asg (.nm 2) (.op .add (.cons (.var 2) (.cons (.op .mul (.cons (.var 3) (.cons (.var 4) .nil))) .nil)))) .nil))) (.cons (.ret (.ite (.op .eq (.cons (.op .ix (.cons (.var 0) (.cons (.cst (.int 1)) .nil))) (.cons (.cst (.int 0)) .nil))) (.op .eq (.cons (.var 1) (.cons (.var 2) .nil))) (.op .eq (.cons (.op .mod (.cons (.op .int (.cons (.op .sub (.cons (.var 1) (.cons (.var 2) .nil))) .nil)) (.cons (.op .ix (.cons (.var 0) (.cons (.cst (.int 1)) .nil))) .nil))) (.cons (.cst (.int 0)) .nil))))) .nil)))
theorem ok__law_in (T : Glob K mg cl fa fd) : FnG P w K mg base 1 (fa 12) (fd 12) ["row", "count"] (spM cl m__law_in) :=
  fn_ok (r := rs [(0, m_is_number), (1, m_is_tuple_of), (2, m_is_ascending), (3, m_is_run), (4, m_has_form), (5, m_tells), (6, m_is_falling), (7, m_checked_falling), (8, m_has), (10, m__law_any), (11, m__law_of)]) (.of T.F12) sc__law_in rfl rfl fun cd A outer s H E hr gd =>
    (js_cons (js_set (i := 2) sc__law_in.nd je_int) (js_cons (js_for (passes_of rfl) rfl (ji_seq (je_ix (je_var (i := 0)) je_int)) (pg_tup rfl (pgs_cons (pg_name (i := 3) sc__law_in.nd rfl (by first | exact .inl rfl | exact .inr rfl)) (pgs_cons (pg_name (i := 4) sc__law_in.nd rfl (by first | exact .inl rfl | exact .inr rfl)) pgs_nil))) (js_cons (js_if (jt_le (je_var (i := 1)) (je_add (je_var (i := 2)) (je_mul (je_var (i := 3)) (je_var (i := 4))))) (js_cons (js_ret (je_eq hr (je_mod (je_ty1 call_int1 sp_int rfl T.n_int PyProof.Rows.boot_int (je_sub (je_var (i := 1)) (je_var (i := 2)))) (je_var (i := 3))) je_int)) js_nil) js_nil) (js_cons (js_set (i := 2) sc__law_in.nd (je_add (je_var (i := 2)) (je_mul (je_var (i := 3)) (je_var (i := 4))))) js_nil))) (js_cons (js_ret (je_ite (jt_eq hr (je_ix (je_var (i := 0)) je_int) je_int) (je_eq hr (je_var (i := 1)) (je_var (i := 2))) (je_eq hr (je_mod (je_ty1 call_int1 sp_int rfl T.n_int PyProof.Rows.boot_int (je_sub (je_var (i := 1)) (je_var (i := 2)))) (je_ix (je_var (i := 0)) je_int)) je_int))) js_nil)))
theorem sc__law_euclid : FnScope ["counts", "left", "runs", "step", "turns", "times", "one"] ["counts"] (defScope st__law_euclid) := ⟨rfl, rfl, rfl, by decide +kernel, rfl, by decide +kernel, by decide +kernel⟩
def m__law_euclid : List M → RF := denF (rs [(0, m_is_number), (1, m_is_tuple_of), (2, m_is_ascending), (3, m_is_run), (4, m_has_form), (5, m_tells), (6, m_is_falling), (7, m_checked_falling), (8, m_has), (10, m__law_any), (11, m__law_of), (12, m__law_in)]) 1 7
  (.cons (.par [1, 2] (.cons (.op .sortset (.cons (.comp (.nm 6) [6] (.seq (.var 0)) (.one (.op .gt (.cons (.var 6) (.cons (.cst (.int 0)) .nil)))) (.frz 6)) .nil)) (.cons (.lst .nil) .nil))) (.cons (.wh (headN 1) (.op .ne (.cons (.var 1) (.cons (.lst .nil) .nil))) (.cons (.asg (.nm 3) (.op .ix (.cons (.var 1) (.cons (.cst (.int 0)) .nil)))) (.cons (.asg (.nm 4) (.comp (.nm 6) [6] (.seq (.var 1)) (.one (.op .gt (.cons (.op .mod (.cons (.op .int (.cons (.var 6) .nil)) (.cons (.var 3) .nil))) (.cons (.cst (.int 0)) .nil)))) (.op .fdiv (.cons (.var 6) (.cons (.var 3) .nil))))) (.cons (.ite (.op .eq (.cons (.var 4) (.cons (.lst .nil) .nil))) (.cons (.ret (.tup (.cons (.op .tuple (.cons (.var 2) .nil)) (.cons (.frz 3) .nil)))) .nil) .nil) (.cons (.asg (.nm 5) (.op .minl (.cons (.var 4) .nil))) (.cons (.app 2 (.tup (.cons (.frz 3) (.cons (.frz 5) .nil)))) (.cons (.asg (.nm 1) (.op .sortset (.cons (.op .add (.cons (.comp (.nm 6) [6] (.seq (.var 1)) (.one (.op .gt (.cons (.var 6) (.cons (.op .mul (.cons (.var 3) (.cons (.var 5) .nil))) .nil)))) (.op .sub (.cons (.var 6) (.cons (.op .mul (.cons (.var 3) (.cons (.var 5) .nil))) .nil)))) (.cons (.lst (.cons (.frz 3) .nil)) .nil))) .nil))) .nil))))))) (.cons (.ret (.tup (.cons (.tup .nil) (.cons (.cst (.int 0)) .nil)))) .nil)))
theorem ok__law_euclid (T : Glob K mg cl fa fd) : FnG P w K mg base 1 (fa 13) (fd 13) ["counts"] (spM cl m__law_euclid) :=
  fn_ok (r := rs [(0, m_is_number), (1, m_is_tuple_of), (2, m_is_ascending), (3, m_is_run), (4, m_has_form), (5, m_tells), (6, m_is_falling), (7, m_checked_falling), (8, m_has), (10, m__law_any), (11, m__law_of), (12, m__law_in)]) (.of T.F13) sc__law_euclid rfl rfl fun cd A outer s H E hr gd =>
    (js_cons (js_par2 rfl sc__law_euclid.nd (ja_cons (je_sortset rfl rfl T.n_sorted rfl T.n_set (je_comp (own := [("one", 6)]) rfl sc__law_euclid.nd (ji_seq (je_var (i := 0))) (blkOk_by rfl) (fun _ _ _ _ _ => (pg_name (i := 6) sc__law_euclid.nd rfl (by first | exact .inl rfl | exact .inr rfl))) (fun _ _ _ _ _ => (jc_one (jt_gt (je_var (i := 6)) je_int))) (fun _ _ _ _ _ => (je_frz (i := 6))))) (ja_cons (je_lst jk_nil) ja_nil))) (js_cons (js_while (passes_of rfl) (jt_ne hr (je_var (i := 1)) (je_lst jk_nil)) (js_cons (js_set (i := 3) sc__law_euclid.nd (je_ix (je_var (i := 1)) je_int)) (js_cons (js_setLc (own := [("one", 6)]) (i := 4) rfl sc__law_euclid.nd rfl rfl (sw_true rfl rfl rfl rfl) (ji_seq (je_var (i := 1))) (blkOk_by rfl) (fun _ _ _ _ _ => (pg_name (i := 6) sc__law_euclid.nd rfl (by first | exact .inl rfl | exact .inr rfl))) (fun _ _ _ _ _ => (jc_one (jt_gt (je_mod (je_ty1 call_int1 sp_int rfl T.n_int PyProof.Rows.boot_int (je_var (i := 6))) (je_var (i := 3))) je_int))) (fun _ _ _ _ _ => (je_fdiv (je_var (i := 6)) (je_var (i := 3))))) (js_cons (js_if (jt_eq hr (je_var (i := 4)) (je_lst jk_nil)) (js_cons (js_ret (je_tup (jk_cons (je_ty1 call_tuple_of sp_tuple rfl T.n_tuple PyProof.Rows.boot_tuple (je_var (i := 2))) (jk_cons (je_frz (i := 3)) jk_nil)))) js_nil) js_nil) (js_cons (js_set (i := 5) sc__law_euclid.nd (je_call1 (cr_min rfl) sp_minl rfl T.n_min PyProof.Rows.boot_min (je_var (i := 4)))) (js_cons (js_app (i := 2) (he := (je_tup (jk_cons (je_frz (i := 3)) (jk_cons (je_frz (i := 5)) jk_nil))))) (js_cons (js_set (i := 1) sc__law_euclid.nd (je_sortset rfl rfl T.n_sorted rfl T.n_set (je_add (je_comp (own := [("one", 6)]) rfl sc__law_euclid.nd (ji_seq (je_var (i := 1))) (blkOk_by rfl) (fun _ _ _ _ _ => (pg_name (i := 6) sc__law_euclid.nd rfl (by first | exact .inl rfl | exact .inr rfl))) (fun _ _ _ _ _ => (jc_one (jt_gt (je_var (i := 6)) (je_mul (je_var (i := 3)) (je_var (i := 5)))))) (fun _ _ _ _ _ => (je_sub (je_var (i := 6)) (je_mul (je_var (i := 3)) (je_var (i := 5)))))) (je_lst (jk_cons (je_frz (i := 3)) jk_nil))))) js_nil))))))) (js_cons (js_ret (je_tup (jk_cons (je_tup jk_nil) (jk_cons je_int jk_nil)))) js_nil)))
theorem sc__law_row : FnScope ["deal", "form", "end", "bound", "turn"] ["deal"] (defScope st__law_row) := ⟨rfl, rfl, rfl, by decide +kernel, rfl, by decide +kernel, by decide +kernel⟩
def m__law_row : List M → RF := denF (rs [(0, m_is_number), (1, m_is_tuple_of), (2, m_is_ascending), (3, m_is_run), (4, m_has_form), (5, m_tells), (6, m_is_falling), (7, m_checked_falling), (8, m_has), (10, m__law_any), (11, m__law_of), (12, m__law_in), (13, m__law_euclid)]) 1 5
  (.cons (.asg (.nm 1) (.call 10 (.cons (.var 0) (.cons (.cst (.int 8)) .nil)))) (.cons (.ite (.op .eq (.cons (.var 1) (.cons (.cst (.int 0)) .nil))) (.cons (.ret (.tup (.cons (.tup .nil) (.cons (.call 10 (.cons (.var 0) (.cons (.cst (.int 5)) .nil))) .nil)))) .nil) .nil) (.cons (.ite (.op .lt (.cons (.var 1) (.cons (.cst (.int 4)) .nil))) (.cons (.ret (.call 13 (.cons (.comp (.nm 4) [4] (.rg1 (.op .add (.cons (.cst (.int 1)) (.cons (.call 10 (.cons (.var 0) (.cons (.cst (.int 4)) .nil))) .nil)))) .yes (.op .add (.cons (.cst (.int 1)) (.cons (.call 10 (.cons (.var 0) (.cons (.cst (.int 24)) .nil))) .nil)))) .nil))) .nil) .nil) (.cons (.ite (.op .lt (.cons (.var 1) (.cons (.cst (.int 6)) .nil))) (.cons (.asg (.nm 2) (.call 11 (.cons (.var 0) (.cons (.lst (.cons (.cst (.int 1)) (.cons (.cst (.int 1)) (.cons (.cst (.int 2)) (.cons (.cst (.int 3)) (.cons (.cst (.int 6)) .nil)))))) .nil)))) (.cons (.ret (.call 13 (.cons (.op .add (.cons (.comp (.nm 4) [4] (.rg1 (.op .add (.cons (.cst (.int 2)) (.cons (.call 10 (.cons (.var 0) (.cons (.cst (.int 2)) .nil))) .nil)))) .yes (.op .mul (.cons (.var 2) (.cons (.op .add (.cons (.cst (.int 1)) (.cons (.call 10 (.cons (.var 0) (.cons (.cst (.int 12)) .nil))) .nil))) .nil)))) (.cons (.lst (.cons (.op .mul (.cons (.var 2) (.cons (.op .add (.cons (.cst (.int 20)) (.cons (.call 10 (.cons (.var 0) (.cons (.cst (.int 9)) .nil))) .nil))) .nil))) .nil)) .nil))) .nil))) .nil)) .nil) (.cons (.asg (.nm 3) (.call 11 (.cons (.var 0) (.cons (.lst (.cons (.op .pow (.cons (.cst (.int 10)) (.cons (.cst (.int 3)) .nil))) (.cons (.op .pow (.cons (.cst (.int 10)) (.cons (.cst (.int 6)) .nil))) (.cons (.op .pow (.cons (.cst (.int 10)) (.cons (.cst (.int 12)) .nil))) (.cons (.op .pow (.cons (.cst (.int 10)) (.cons (.cst (.int 29)) .nil))) .nil))))) .nil)))) (.cons (.ret (.call 13 (.cons (.comp (.nm 4) [4] (.rg1 (.op .add (.cons (.cst (.int 1)) (.cons (.call 10 (.cons (.var 0) (.cons (.cst (.int 4)) .nil))) .nil)))) .yes (.op .add (.cons (.cst (.int 1)) (.cons (.call 10 (.cons (.var 0) (.cons (.frz 3) .nil))) .nil)))) .nil))) .nil))))))
theorem ok__law_row (T : Glob K mg cl fa fd) : FnG P w K mg base 5 (fa 14) (fd 14) ["deal"] (spM cl m__law_row) :=
  fn_ok (r := rs [(0, m_is_number), (1, m_is_tuple_of), (2, m_is_ascending), (3, m_is_run), (4, m_has_form), (5, m_tells), (6, m_is_falling), (7, m_checked_falling), (8, m_has), (10, m__law_any), (11, m__law_of), (12, m__law_in), (13, m__law_euclid)]) (.of T.F14) sc__law_row rfl rfl fun cd A outer s H E hr gd =>
    (js_cons (js_set (i := 1) sc__law_row.nd (je_callG (fi := 10) (ok__law_any T) (hr.mono (by decide)) gd T.m10 T.F10.kp T.b10 (takes_of rfl rfl rfl rfl) (ja_cons (je_var (i := 0)) (ja_cons je_int ja_nil)))) (js_cons (js_if (jt_eq hr (je_var (i := 1)) je_int) (js_cons (js_ret (je_tup (jk_cons (je_tup jk_nil) (jk_cons (je_callG (fi := 10) (ok__law_any T) (hr.mono (by decide)) gd T.m10 T.F10.kp T.b10 (takes_of rfl rfl rfl rfl) (ja_cons (je_var (i := 0)) (ja_cons je_int ja_nil))) jk_nil)))) js_nil) js_nil) (js_cons (js_if (jt_lt (je_var (i := 1)) je_int) (js_cons (js_ret (je_callG (fi := 13) (ok__law_euclid T) (hr.mono (by decide)) gd T.m13 T.F13.kp T.b13 (takes_of rfl rfl rfl rfl) (ja_cons (je_comp (own := [("turn", 4)]) rfl sc__law_row.nd (ji_rg1 rfl T.n_range (je_add je_int (je_callG (fi := 10) (ok__law_any T) (hr.mono (by decide)) gd T.m10 T.F10.kp T.b10 (takes_of rfl rfl rfl rfl) (ja_cons (je_var (i := 0)) (ja_cons je_int ja_nil))))) (blkOk_by rfl) (fun _ _ _ _ _ => (pg_name (i := 4) sc__law_row.nd rfl (by first | exact .inl rfl | exact .inr rfl))) (fun _ _ _ _ _ => jc_yes) (fun _ _ _ _ _ => (je_add je_int (je_callG (fi := 10) (ok__law_any T) (hr.mono (by decide)) gd T.m10 T.F10.kp T.b10 takes0 (ja_cons (je_var (i := 0)) (ja_cons je_int ja_nil)))))) ja_nil))) js_nil) js_nil) (js_cons (js_if (jt_lt (je_var (i := 1)) je_int) (js_cons (js_set (i := 2) sc__law_row.nd (je_callG (fi := 11) (ok__law_of T) (hr.mono (by decide)) gd T.m11 T.F11.kp T.b11 (takes_of rfl rfl rfl rfl) (ja_cons (je_var (i := 0)) (ja_cons (je_lst (jk_cons je_int (jk_cons je_int (jk_cons je_int (jk_cons je_int (jk_cons je_int jk_nil)))))) ja_nil)))) (js_cons (js_ret (je_callG (fi := 13) (ok__law_euclid T) (hr.mono (by decide)) gd T.m13 T.F13.kp T.b13 (takes_of rfl rfl rfl rfl) (ja_cons (je_add (je_comp (own := [("turn", 4)]) rfl sc__law_row.nd (ji_rg1 rfl T.n_range (je_add je_int (je_callG (fi := 10) (ok__law_any T) (hr.mono (by decide)) gd T.m10 T.F10.kp T.b10 (takes_of rfl rfl rfl rfl) (ja_cons (je_var (i := 0)) (ja_cons je_int ja_nil))))) (blkOk_by rfl) (fun _ _ _ _ _ => (pg_name (i := 4) sc__law_row.nd rfl (by first | exact .inl rfl | exact .inr rfl))) (fun _ _ _ _ _ => jc_yes) (fun _ _ _ _ _ => (je_mul (je_var (i := 2)) (je_add je_int (je_callG (fi := 10) (ok__law_any T) (hr.mono (by decide)) gd T.m10 T.F10.kp T.b10 takes0 (ja_cons (je_var (i := 0)) (ja_cons je_int ja_nil))))))) (je_lst (jk_cons (je_mul (je_var (i := 2)) (je_add je_int (je_callG (fi := 10) (ok__law_any T) (hr.mono (by decide)) gd T.m10 T.F10.kp T.b10 (takes_of rfl rfl rfl rfl) (ja_cons (je_var (i := 0)) (ja_cons je_int ja_nil))))) jk_nil))) ja_nil))) js_nil)) js_nil) (js_cons (js_set (i := 3) sc__law_row.nd (je_callG (fi := 11) (ok__law_of T) (hr.mono (by decide)) gd T.m11 T.F11.kp T.b11 (takes_of rfl rfl rfl rfl) (ja_cons (je_var (i := 0)) (ja_cons (je_lst (jk_cons (je_pow je_int je_int) (jk_cons (je_pow je_int je_int) (jk_cons (je_pow je_int je_int) (jk_cons (je_pow je_int je_int) jk_nil))))) ja_nil)))) (js_cons (js_ret (je_callG (fi := 13) (ok__law_euclid T) (hr.mono (by decide)) gd T.m13 T.F13.kp T.b13 (takes_of rfl rfl rfl rfl) (ja_cons (je_comp (own := [("turn", 4)]) rfl sc__law_row.nd (ji_rg1 rfl T.n_range (je_add je_int (je_callG (fi := 10) (ok__law_any T) (hr.mono (by decide)) gd T.m10 T.F10.kp T.b10 (takes_of rfl rfl rfl rfl) (ja_cons (je_var (i := 0)) (ja_cons je_int ja_nil))))) (blkOk_by rfl) (fun _ _ _ _ _ => (pg_name (i := 4) sc__law_row.nd rfl (by first | exact .inl rfl | exact .inr rfl))) (fun _ _ _ _ _ => jc_yes) (fun _ _ _ _ _ => (je_add je_int (je_callG (fi := 10) (ok__law_any T) (hr.mono (by decide)) gd T.m10 T.F10.kp T.b10 takes0 (ja_cons (je_var (i := 0)) (ja_cons (je_frz (i := 3)) ja_nil)))))) ja_nil))) js_nil))))))
theorem sc__law_is_number : FnScope ["value"] ["value"] (defScope st__law_is_number) := ⟨rfl, rfl, rfl, by decide +kernel, rfl, by decide +kernel, by decide +kernel⟩
def m__law_is_number : List M → RF := denF (rs [(0, m_is_number), (1, m_is_tuple_of), (2, m_is_ascending), (3, m_is_run), (4, m_has_form), (5, m_tells), (6, m_is_falling), (7, m_checked_falling), (8, m_has), (10, m__law_any), (11, m__law_of), (12, m__law_in), (13, m__law_euclid), (14, m__law_row)]) 1 1
  (.cons (.ret (.and (.op (.isa .tInt) (.cons (.var 0) .nil)) (.and (.not (.op (.isa .tBool) (.cons (.var 0) .nil))) (.op .ge (.cons (.var 0) (.cons (.cst (.int 0)) .nil)))))) .nil)
theorem ok__law_is_number (T : Glob K mg cl fa fd) : FnG P w K mg base 1 (fa 15) (fd 15) ["value"] (spM cl m__law_is_number) :=
  fn_ok (r := rs [(0, m_is_number), (1, m_is_tuple_of), (2, m_is_ascending), (3, m_is_run), (4, m_has_form), (5, m_tells), (6, m_is_falling), (7, m_checked_falling), (8, m_has), (10, m__law_any), (11, m__law_of), (12, m__law_in), (13, m__law_euclid), (14, m__law_row)]) (.of T.F15) sc__law_is_number rfl rfl fun cd A outer s H E hr gd =>
    (js_cons (js_ret (je_and (je_isa (t := .tInt) (hg := rfl) (hm := T.n_isinstance) (hg2 := rfl) (hm2 := T.n_int) (hv2 := PyProof.Rows.boot_int) (ha := (je_var (i := 0)))) (je_and (je_not (je_isa (t := .tBool) (hg := rfl) (hm := T.n_isinstance) (hg2 := rfl) (hm2 := T.n_bool) (hv2 := PyProof.Rows.boot_bool) (ha := (je_var (i := 0))))) (je_and1 (je_ge (je_var (i := 0)) je_int))))) js_nil)
theorem sc__law_is_falling : FnScope ["value", "run", "at", "behind", "one"] ["value"] (defScope st__law_is_falling) := ⟨rfl, rfl, rfl, by decide +kernel, rfl, by decide +kernel, by decide +kernel⟩
def m__law_is_falling : List M → RF := denF (rs [(0, m_is_number), (1, m_is_tuple_of), (2, m_is_ascending), (3, m_is_run), (4, m_has_form), (5, m_tells), (6, m_is_falling), (7, m_checked_falling), (8, m_has), (10, m__law_any), (11, m__law_of), (12, m__law_in), (13, m__law_euclid), (14, m__law_row), (15, m__law_is_number)]) 1 5
  (.cons (.ite (.or (.not (.op (.isa .tTuple) (.cons (.var 0) .nil))) (.or (.op .ne (.cons (.op .len (.cons (.var 0) .nil)) (.cons (.cst (.int 2)) .nil))) (.or (.not (.op (.isa .tTuple) (.cons (.op .ix (.cons (.var 0) (.cons (.cst (.int 0)) .nil))) .nil))) (.not (.call 15 (.cons (.op .ix (.cons (.var 0) (.cons (.cst (.int 1)) .nil))) .nil)))))) (.cons (.ret (.cst (.bl false))) .nil) .nil) (.cons (.for_ (.nm 1) (.seq (.op .ix (.cons (.var 0) (.cons (.cst (.int 0)) .nil)))) (.cons (.ite (.or (.not (.op (.isa .tTuple) (.cons (.var 1) .nil))) (.or (.op .ne (.cons (.op .len (.cons (.var 1) .nil)) (.cons (.cst (.int 2)) .nil))) (.op .ne (.cons (.comp (.nm 4) [4] (.seq (.var 1)) (.one (.or (.not (.call 15 (.cons (.frz 4) .nil))) (.op .eq (.cons (.var 4) (.cons (.cst (.int 0)) .nil))))) (.frz 4)) (.cons (.lst .nil) .nil))))) (.cons (.ret (.cst (.bl false))) .nil) .nil) .nil)) (.cons (.ite (.and (.op .ne (.cons (.op .ix (.cons (.var 0) (.cons (.cst (.int 0)) .nil))) (.cons (.tup .nil) .nil))) (.op .eq (.cons (.op .ix (.cons (.var 0) (.cons (.cst (.int 1)) .nil))) (.cons (.cst (.int 0)) .nil)))) (.cons (.ret (.cst (.bl false))) .nil) .nil) (.cons (.for_ (.tp [2, 1]) (.enum (.op .ix (.cons (.var 0) (.cons (.cst (.int 0)) .nil)))) (.cons (.asg (.nm 3) (.ite (.op .lt (.cons (.op .add (.cons (.var 2) (.cons (.cst (.int 1)) .nil))) (.cons (.op .len (.cons (.op .ix (.cons (.var 0) (.cons (.cst (.int 0)) .nil))) .nil)) .nil))) (.op .ix (.cons (.op .ix (.cons (.op .ix (.cons (.var 0) (.cons (.cst (.int 0)) .nil))) (.cons (.op .add (.cons (.var 2) (.cons (.cst (.int 1)) .nil))) .nil))) (.cons (.cst (.int 0)) .nil))) (.op .ix (.cons (.var 0) (.cons (.cst (.int 1)) .nil))))) (.cons (.ite (.or (.op .le (.cons (.op .ix (.cons (.var 1) (.cons (.cst (.int 0)) .nil))) (.cons (.var 3) .nil))) (.not (.call 12 (.cons (.tup (.cons (.op (.sl true false) (.cons (.op .ix (.cons (.var 0) (.cons (.cst (.int 0)) .nil))) (.cons (.op .add (.cons (.var 2) (.cons (.cst (.int 1)) .nil))) .nil))) (.cons (.op .ix (.cons (.var 0) (.cons (.cst (.int 1)) .nil))) .nil))) (.cons (.op .ix (.cons (.var 1) (.cons (.cst (.int 0)) .nil))) .nil))))) (.cons (.ret (.cst (.bl false))) .nil) .nil) .nil))) (.cons (.ret (.cst (.bl true))) .nil)))))
theorem ok__law_is_falling (T : Glob K mg cl fa fd) : FnG P w K mg base 2 (fa 16) (fd 16) ["value"] (spM cl m__law_is_falling) :=
  fn_ok (r := rs [(0, m_is_number), (1, m_is_tuple_of), (2, m_is_ascending), (3, m_is_run), (4, m_has_form), (5, m_tells), (6, m_is_falling), (7, m_checked_falling), (8, m_has), (10, m__law_any), (11, m__law_of), (12, m__law_in), (13, m__law_euclid), (14, m__law_row), (15, m__law_is_number)]) (.of T.F16) sc__law_is_falling rfl rfl fun cd A outer s H E hr gd =>
    (js_cons (js_if (PW.pt (jw_or (jt_not (jt_val (je_isa (t := .tTuple) (hg := rfl) (hm := T.n_isinstance) (hg2 := rfl) (hm2 := T.n_tuple) (hv2 := PyProof.Rows.boot_tuple) (ha := (je_var (i := 0)))))) (jw_or (jt_ne hr (je_call1 call_len_seq sp_len rfl T.n_len boot_len (je_var (i := 0))) je_int) (jw_or (jt_not (jt_val (je_isa (t := .tTuple) (hg := rfl) (hm := T.n_isinstance) (hg2 := rfl) (hm2 := T.n_tuple) (hv2 := PyProof.Rows.boot_tuple) (ha := (je_ix (je_var (i := 0)) je_int))))) (jw_or1 (jt_not (jt_val (je_callG (fi := 15) (ok__law_is_number T) (hr.mono (by decide)) gd T.m15 T.F15.kp T.b15 (takes_of rfl rfl rfl rfl) (ja_cons (je_ix (je_var (i := 0)) je_int) ja_nil))))))))) (js_cons (js_ret je_bl) js_nil) js_nil) (js_cons (js_for (passes_of rfl) rfl (ji_seq (je_ix (je_var (i := 0)) je_int)) (pg_name (i := 1) sc__law_is_falling.nd rfl (by first | exact .inl rfl | exact .inr rfl)) (js_cons (js_if (PW.pt (jw_or (jt_not (jt_val (je_isa (t := .tTuple) (hg := rfl) (hm := T.n_isinstance) (hg2 := rfl) (hm2 := T.n_tuple) (hv2 := PyProof.Rows.boot_tuple) (ha := (je_var (i := 1)))))) (jw_or (jt_ne hr (je_call1 call_len_seq sp_len rfl T.n_len boot_len (je_var (i := 1))) je_int) (jw_or1 (jt_ne hr (je_comp (own := [("one", 4)]) rfl sc__law_is_falling.nd (ji_seq (je_var (i := 1))) (blkOk_by rfl) (fun _ _ _ _ _ => (pg_name (i := 4) sc__law_is_falling.nd rfl (by first | exact .inl rfl | exact .inr rfl))) (fun _ _ _ _ _ => (jc_one (PW.pt (jw_or (jt_not (jt_val (je_callG (fi := 15) (ok__law_is_number T) (hr.mono (by decide)) gd T.m15 T.F15.kp T.b15 takes0 (ja_cons (je_frz (i := 4)) ja_nil)))) (jw_or1 (jt_eq hr (je_var (i := 4)) je_int)))))) (fun _ _ _ _ _ => (je_frz (i := 4)))) (je_lst jk_nil)))))) (js_cons (js_ret je_bl) js_nil) js_nil) js_nil)) (js_cons (js_if (PW.pt (jw_and (jt_ne hr (je_ix (je_var (i := 0)) je_int) (je_tup jk_nil)) (jw_and1 (jt_eq hr (je_ix (je_var (i := 0)) je_int) je_int)))) (js_cons (js_ret je_bl) js_nil) js_nil) (js_cons (js_for (passes_of rfl) rfl (ji_enum rfl T.n_enumerate (je_ix (je_var (i := 0)) je_int)) (pg_tup rfl (pgs_cons (pg_name (i := 2) sc__law_is_falling.nd rfl (by first | exact .inl rfl | exact .inr rfl)) (pgs_cons (pg_name (i := 1) sc__law_is_falling.nd rfl (by first | exact .inl rfl | exact .inr rfl)) pgs_nil))) (js_cons (js_set (i := 3) sc__law_is_falling.nd (je_ite (jt_lt (je_add (je_var (i := 2)) je_int) (je_call1 call_len_seq sp_len rfl T.n_len boot_len (je_ix (je_var (i := 0)) je_int))) (je_ix (je_ix (je_ix (je_var (i := 0)) je_int) (je_add (je_var (i := 2)) je_int)) je_int) (je_ix (je_var (i := 0)) je_int))) (js_cons (js_if (PW.pt (jw_or (jt_le (je_ix (je_var (i := 1)) je_int) (je_var (i := 3))) (jw_or1 (jt_not (jt_val (je_callG (fi := 12) (ok__law_in T) (hr.mono (by decide)) gd T.m12 T.F12.kp T.b12 (takes_of rfl rfl rfl rfl) (ja_cons (je_tup (jk_cons (je_sl10 (je_ix (je_var (i := 0)) je_int) (je_add (je_var (i := 2)) je_int)) (jk_cons (je_ix (je_var (i := 0)) je_int) jk_nil))) (ja_cons (je_ix (je_var (i := 1)) je_int) ja_nil)))))))) (js_cons (js_ret je_bl) js_nil) js_nil) js_nil))) (js_cons (js_ret je_bl) js_nil)))))
theorem sc__law_near : FnScope ["deal", "row", "form", "runs", "end", "at", "step", "times"] ["deal", "row"] (defScope st__law_near) := ⟨rfl, rfl, rfl, by decide +kernel, rfl, by decide +kernel, by decide +kernel⟩
def m__law_near : List M → RF := denF (rs [(0, m_is_number), (1, m_is_tuple_of), (2, m_is_ascending), (3, m_is_run), (4, m_has_form), (5, m_tells), (6, m_is_falling), (7, m_checked_falling), (8, m_has), (10, m__law_any), (11, m__law_of), (12, m__law_in), (13, m__law_euclid), (14, m__law_row), (15, m__law_is_number), (16, m__law_is_falling)]) 2 8
  (.cons (.par [2, 3, 4] (.cons (.call 10 (.cons (.var 0) (.cons (.cst (.int 12)) .nil))) (.cons (.op .list (.cons (.op .ix (.cons (.var 1) (.cons (.cst (.int 0)) .nil))) .nil)) (.cons (.op .ix (.cons (.var 1) (.cons (.cst (.int 1)) .nil))) .nil)))) (.cons (.ite (.op .eq (.cons (.var 2) (.cons (.cst (.int 0)) .nil))) (.cons (.ret (.call 11 (.cons (.var 0) (.cons (.lst (.cons (.cst .non) (.cons (.frz 3) (.cons (.lst (.cons (.op .ix (.cons (.var 1) (.cons (.cst (.int 0)) .nil))) (.cons (.frz 4) .nil))) (.cons (.tup (.cons (.frz 3) (.cons (.frz 4) .nil))) (.cons (.tup (.cons (.op .ix (.cons (.var 1) (.cons (.cst (.int 0)) .nil))) .nil)) (.cons (.tup (.cons (.op .ix (.cons (.var 1) (.cons (.cst (.int 0)) .nil))) (.cons (.frz 4) (.cons (.cst (.int 0)) .nil)))) (.cons (.cst (.int 0)) (.cons (.tup (.cons (.op .ix (.cons (.var 1) (.cons (.cst (.int 0)) .nil))) (.cons (.cst .non) .nil))) (.cons (.tup (.cons (.op .ix (.cons (.var 1) (.cons (.cst (.int 0)) .nil))) (.cons (.cst (.str (Str.ofString "1"))) .nil))) (.cons (.tup (.cons (.tup (.cons (.cst (.int 0)) .nil)) (.cons (.cst (.int 1)) .nil))) .nil))))))))))) .nil)))) .nil) .nil) (.cons (.ite (.op .eq (.cons (.var 2) (.cons (.cst (.int 1)) .nil))) (.cons (.ret (.tup (.cons (.op .ix (.cons (.var 1) (.cons (.cst (.int 0)) .nil))) (.cons (.call 11 (.cons (.var 0) (.cons (.lst (.cons (.cst (.int 0)) (.cons (.op .neg (.cons (.cst (.int 1)) .nil)) (.cons (.cst (.bl true)) (.cons (.cst (.bl false)) (.cons (.op .add (.cons (.var 4) (.cons (.cst (.int 1)) .nil))) (.cons (.op .mul (.cons (.var 4) (.cons (.cst (.int 2)) .nil))) (.cons (.op .sub (.cons (.var 4) (.cons (.cst (.int 1)) .nil))) (.cons (.op .mul (.cons (.var 4) (.cons (.cst (.int 3)) .nil))) .nil))))))))) .nil))) .nil)))) .nil) .nil) (.cons (.ite (.or (.op .eq (.cons (.var 3) (.cons (.lst .nil) .nil))) (.op .eq (.cons (.var 2) (.cons (.cst (.int 2)) .nil)))) (.cons (.ins 3 (.call 10 (.cons (.var 0) (.cons (.op .add (.cons (.op .len (.cons (.var 3) .nil)) (.cons (.cst (.int 1)) .nil))) .nil))) (.tup (.cons (.op .add (.cons (.cst (.int 1)) (.cons (.call 10 (.cons (.var 0) (.cons (.cst (.int 9)) .nil))) .nil))) (.cons (.op .add (.cons (.cst (.int 1)) (.cons (.call 10 (.cons (.var 0) (.cons (.cst (.int 3)) .nil))) .nil))) .nil)))) (.cons (.ret (.tup (.cons (.op .tuple (.cons (.var 3) .nil)) (.cons (.frz 4) .nil)))) .nil)) .nil) (.cons (.asg (.nm 5) (.call 10 (.cons (.var 0) (.cons (.op .len (.cons (.var 3) .nil)) .nil)))) (.cons (.asg (.tp [6, 7]) (.op .ix (.cons (.var 3) (.cons (.var 5) .nil)))) (.cons (.ite (.op .lt (.cons (.var 2) (.cons (.cst (.int 5)) .nil))) (.cons (.setix 3 (.var 5) (.tup (.cons (.op .add (.cons (.var 6) (.cons (.call 11 (.cons (.var 0) (.cons (.lst (.cons (.cst (.int 1)) (.cons (.op .neg (.cons (.cst (.int 1)) .nil)) (.cons (.cst (.int 2)) (.cons (.frz 4) (.cons (.op .neg (.cons (.var 4) .nil)) .nil)))))) .nil))) .nil))) (.cons (.frz 7) .nil)))) .nil) (.cons (.ite (.op .lt (.cons (.var 2) (.cons (.cst (.int 7)) .nil))) (.cons (.setix 3 (.var 5) (.tup (.cons (.frz 6) (.cons (.call 11 (.cons (.var 0) (.cons (.lst (.cons (.op .add (.cons (.var 7) (.cons (.cst (.int 1)) .nil))) (.cons (.op .sub (.cons (.var 7) (.cons (.cst (.int 1)) .nil))) (.cons (.cst (.int 0)) (.cons (.op .mul (.cons (.var 7) (.cons (.cst (.int 2)) .nil))) (.cons (.cst (.int 1)) .nil)))))) .nil))) .nil)))) .nil) (.cons (.ite (.op .eq (.cons (.var 2) (.cons (.cst (.int 7)) .nil))) (.cons (.setix 3 (.var 5) (.call 11 (.cons (.var 0) (.cons (.lst (.cons (.lst (.cons (.frz 6) (.cons (.frz 7) .nil))) (.cons (.tup (.cons (.frz 6) .nil)) (.cons (.tup (.cons (.frz 6) (.cons (.frz 7) (.cons (.cst (.int 1)) .nil)))) (.cons (.tup (.cons (.cst (.bl true)) (.cons (.frz 7) .nil))) (.cons (.tup (.cons (.frz 6) (.cons (.cst (.bl true)) .nil))) (.cons (.tup (.cons (.frz 6) (.cons (.cst .non) .nil))) (.cons (.tup (.cons (.cst (.int 0)) (.cons (.frz 7) .nil))) (.cons (.tup (.cons (.op .neg (.cons (.var 6) .nil)) (.cons (.frz 7) .nil))) (.cons (.frz 6) .nil)))))))))) .nil)))) .nil) (.cons (.ite (.op .eq (.cons (.var 2) (.cons (.cst (.int 8)) .nil))) (.cons (.expr (.popAt 3 (.var 5))) .nil) (.cons (.ite (.op .eq (.cons (.var 2) (.cons (.cst (.int 9)) .nil))) (.cons (.ins 3 (.var 5) (.tup (.cons (.frz 6) (.cons (.cst (.int 1)) .nil)))) .nil) (.cons (.ite (.op .eq (.cons (.var 2) (.cons (.cst (.int 10)) .nil))) (.cons (.asg (.nm 3) (.op .rev (.cons (.var 3) .nil))) .nil) .nil) .nil)) .nil)) .nil)) .nil)) .nil)) (.cons (.ret (.tup (.cons (.op .tuple (.cons (.var 3) .nil)) (.cons (.frz 4) .nil)))) .nil))))))))
theorem ok__law_near (T : Glob K mg cl fa fd) : FnG P w K mg base 5 (fa 17) (fd 17) ["deal", "row"] (spM cl m__law_near) :=
  fn_ok (r := rs [(0, m_is_number), (1, m_is_tuple_of), (2, m_is_ascending), (3, m_is_run), (4, m_has_form), (5, m_tells), (6, m_is_falling), (7, m_checked_falling), (8, m_has), (10, m__law_any), (11, m__law_of), (12, m__law_in), (13, m__law_euclid), (14, m__law_row), (15, m__law_is_number), (16, m__law_is_falling)]) (.of T.F17) sc__law_near rfl rfl fun cd A outer s H E hr gd =>
    (js_cons (js_par3 rfl sc__law_near.nd (ja_cons (je_callG (fi := 10) (ok__law_any T) (hr.mono (by decide)) gd T.m10 T.F10.kp T.b10 (takes_of rfl rfl rfl rfl) (ja_cons (je_var (i := 0)) (ja_cons je_int ja_nil))) (ja_cons (je_ty1 call_list_of sp_list rfl T.n_list PyProof.Rows.boot_list (je_ix (je_var (i := 1)) je_int)) (ja_cons (je_ix (je_var (i := 1)) je_int) ja_nil)))) (js_cons (js_if (jt_eq hr (je_var (i := 2)) je_int) (js_cons (js_ret (je_callG (fi := 11) (ok__law_of T) (hr.mono (by decide)) gd T.m11 T.F11.kp T.b11 (takes_of rfl rfl rfl rfl) (ja_cons (je_var (i := 0)) (ja_cons (je_lst (jk_cons je_non (jk_cons (je_frz (i := 3)) (jk_cons (je_lst (jk_cons (je_ix (je_var (i := 1)) je_int) (jk_cons (je_frz (i := 4)) jk_nil))) (jk_cons (je_tup (jk_cons (je_frz (i := 3)) (jk_cons (je_frz (i := 4)) jk_nil))) (jk_cons (je_tup (jk_cons (je_ix (je_var (i := 1)) je_int) jk_nil)) (jk_cons (je_tup (jk_cons (je_ix (je_var (i := 1)) je_int) (jk_cons (je_frz (i := 4)) (jk_cons je_int jk_nil)))) (jk_cons je_int (jk_cons (je_tup (jk_cons (je_ix (je_var (i := 1)) je_int) (jk_cons je_non jk_nil))) (jk_cons (je_tup (jk_cons (je_ix (je_var (i := 1)) je_int) (jk_cons je_str jk_nil))) (jk_cons (je_tup (jk_cons (je_tup (jk_cons je_int jk_nil)) (jk_cons je_int jk_nil))) jk_nil))))))))))) ja_nil)))) js_nil) js_nil) (js_cons (js_if (jt_eq hr (je_var (i := 2)) je_int) (js_cons (js_ret (je_tup (jk_cons (je_ix (je_var (i := 1)) je_int) (jk_cons (je_callG (fi := 11) (ok__law_of T) (hr.mono (by decide)) gd T.m11 T.F11.kp T.b11 (takes_of rfl rfl rfl rfl) (ja_cons (je_var (i := 0)) (ja_cons (je_lst (jk_cons je_int (jk_cons (je_neg je_int) (jk_cons je_bl (jk_cons je_bl (jk_cons (je_add (je_var (i := 4)) je_int) (jk_cons (je_mul (je_var (i := 4)) je_int) (jk_cons (je_sub (je_var (i := 4)) je_int) (jk_cons (je_mul (je_var (i := 4)) je_int) jk_nil))))))))) ja_nil))) jk_nil)))) js_nil) js_nil) (js_cons (js_if (PW.pt (jw_or (jt_eq hr (je_var (i := 3)) (je_lst jk_nil)) (jw_or1 (jt_eq hr (je_var (i := 2)) je_int)))) (js_cons (js_ins (i := 3) (hk := (je_callG (fi := 10) (ok__law_any T) (hr.mono (by decide)) gd T.m10 T.F10.kp T.b10 (takes_of rfl rfl rfl rfl) (ja_cons (je_var (i := 0)) (ja_cons (je_add (je_call1 call_len_seq sp_len rfl T.n_len boot_len (je_var (i := 3))) je_int) ja_nil)))) (he := (je_tup (jk_cons (je_add je_int (je_callG (fi := 10) (ok__law_any T) (hr.mono (by decide)) gd T.m10 T.F10.kp T.b10 (takes_of rfl rfl rfl rfl) (ja_cons (je_var (i := 0)) (ja_cons je_int ja_nil)))) (jk_cons (je_add je_int (je_callG (fi := 10) (ok__law_any T) (hr.mono (by decide)) gd T.m10 T.F10.kp T.b10 (takes_of rfl rfl rfl rfl) (ja_cons (je_var (i := 0)) (ja_cons je_int ja_nil)))) jk_nil))))) (js_cons (js_ret (je_tup (jk_cons (je_ty1 call_tuple_of sp_tuple rfl T.n_tuple PyProof.Rows.boot_tuple (je_var (i := 3))) (jk_cons (je_frz (i := 4)) jk_nil)))) js_nil)) js_nil) (js_cons (js_set (i := 5) sc__law_near.nd (je_callG (fi := 10) (ok__law_any T) (hr.mono (by decide)) gd T.m10 T.F10.kp T.b10 (takes_of rfl rfl rfl rfl) (ja_cons (je_var (i := 0)) (ja_cons (je_call1 call_len_seq sp_len rfl T.n_len boot_len (je_var (i := 3))) ja_nil)))) (js_cons (js_asg (je_ix (je_var (i := 3)) (je_var (i := 5))) (pg_tup rfl (pgs_cons (pg_name (i := 6) sc__law_near.nd rfl (by first | exact .inl rfl | exact .inr rfl)) (pgs_cons (pg_name (i := 7) sc__law_near.nd rfl (by first | exact .inl rfl | exact .inr rfl)) pgs_nil)))) (js_cons (js_if (jt_lt (je_var (i := 2)) je_int) (js_cons (js_setix (i := 3) (hk := (je_var (i := 5))) (he := (je_tup (jk_cons (je_add (je_var (i := 6)) (je_callG (fi := 11) (ok__law_of T) (hr.mono (by decide)) gd T.m11 T.F11.kp T.b11 (takes_of rfl rfl rfl rfl) (ja_cons (je_var (i := 0)) (ja_cons (je_lst (jk_cons je_int (jk_cons (je_neg je_int) (jk_cons je_int (jk_cons (je_frz (i := 4)) (jk_cons (je_neg (je_var (i := 4))) jk_nil)))))) ja_nil)))) (jk_cons (je_frz (i := 7)) jk_nil))))) js_nil) (js_cons (js_if (jt_lt (je_var (i := 2)) je_int) (js_cons (js_setix (i := 3) (hk := (je_var (i := 5))) (he := (je_tup (jk_cons (je_frz (i := 6)) (jk_cons (je_callG (fi := 11) (ok__law_of T) (hr.mono (by decide)) gd T.m11 T.F11.kp T.b11 (takes_of rfl rfl rfl rfl) (ja_cons (je_var (i := 0)) (ja_cons (je_lst (jk_cons (je_add (je_var (i := 7)) je_int) (jk_cons (je_sub (je_var (i := 7)) je_int) (jk_cons je_int (jk_cons (je_mul (je_var (i := 7)) je_int) (jk_cons je_int jk_nil)))))) ja_nil))) jk_nil))))) js_nil) (js_cons (js_if (jt_eq hr (je_var (i := 2)) je_int) (js_cons (js_setix (i := 3) (hk := (je_var (i := 5))) (he := (je_callG (fi := 11) (ok__law_of T) (hr.mono (by decide)) gd T.m11 T.F11.kp T.b11 (takes_of rfl rfl rfl rfl) (ja_cons (je_var (i := 0)) (ja_cons (je_lst (jk_cons (je_lst (jk_cons (je_frz (i := 6)) (jk_cons (je_frz (i := 7)) jk_nil))) (jk_cons (je_tup (jk_cons (je_frz (i := 6)) jk_nil)) (jk_cons (je_tup (jk_cons (je_frz (i := 6)) (jk_cons (je_frz (i := 7)) (jk_cons je_int jk_nil)))) (jk_cons (je_tup (jk_cons je_bl (jk_cons (je_frz (i := 7)) jk_nil))) (jk_cons (je_tup (jk_cons (je_frz (i := 6)) (jk_cons je_bl jk_nil))) (jk_cons (je_tup (jk_cons (je_frz (i := 6)) (jk_cons je_non jk_nil))) (jk_cons (je_tup (jk_cons je_int (jk_cons (je_frz (i := 7)) jk_nil))) (jk_cons (je_tup (jk_cons (je_neg (je_var (i := 6))) (jk_cons (je_frz (i := 7)) jk_nil))) (jk_cons (je_frz (i := 6)) jk_nil)))))))))) ja_nil))))) js_nil) (js_cons (js_if (jt_eq hr (je_var (i := 2)) je_int) (js_cons (js_expr (je_popAt (i := 3) (he := (je_var (i := 5))))) js_nil) (js_cons (js_if (jt_eq hr (je_var (i := 2)) je_int) (js_cons (js_ins (i := 3) (hk := (je_var (i := 5))) (he := (je_tup (jk_cons (je_frz (i := 6)) (jk_cons je_int jk_nil))))) js_nil) (js_cons (js_if (jt_eq hr (je_var (i := 2)) je_int) (js_cons (js_set (i := 3) sc__law_near.nd (je_rev (je_var (i := 3)))) js_nil) js_nil) js_nil)) js_nil)) js_nil)) js_nil)) js_nil)) (js_cons (js_ret (je_tup (jk_cons (je_ty1 call_tuple_of sp_tuple rfl T.n_tuple PyProof.Rows.boot_tuple (je_var (i := 3))) (jk_cons (je_frz (i := 4)) jk_nil)))) js_nil))))))))
theorem sc__law_count : FnScope ["deal", "row", "total", "form", "at", "begin", "step", "times"] ["deal", "row"] (defScope st__law_count) := ⟨rfl, rfl, rfl, by decide +kernel, rfl, by decide +kernel, by decide +kernel⟩
def m__law_count : List M → RF := denF (rs [(0, m_is_number), (1, m_is_tuple_of), (2, m_is_ascending), (3, m_is_run), (4, m_has_form), (5, m_tells), (6, m_is_falling), (7, m_checked_falling), (8, m_has), (10, m__law_any), (11, m__law_of), (12, m__law_in), (13, m__law_euclid), (14, m__law_row), (15, m__law_is_number), (16, m__law_is_falling), (17, m__law_near)]) 2 8
  (.cons (.par [2, 3] (.cons (.op .sum (.cons (.comp (.tp [6, 7]) [6, 7] (.seq (.op .ix (.cons (.var 1) (.cons (.cst (.int 0)) .nil)))) .yes (.op .mul (.cons (.var 6) (.cons (.var 7) .nil)))) .nil)) (.cons (.call 10 (.cons (.var 0) (.cons (.cst (.int 5)) .nil))) .nil))) (.cons (.ite (.op .eq (.cons (.var 3) (.cons (.cst (.int 0)) .nil))) (.cons (.ret (.call 10 (.cons (.var 0) (.cons (.cst (.int 40)) .nil)))) .nil) .nil) (.cons (.ite (.op .eq (.cons (.var 3) (.cons (.cst (.int 1)) .nil))) (.cons (.ret (.op .max2 (.cons (.cst (.int 0)) (.cons (.op .sub (.cons (.op .add (.cons (.op .add (.cons (.var 2) (.cons (.op .mul (.cons (.op .ix (.cons (.var 1) (.cons (.cst (.int 1)) .nil))) (.cons (.call 10 (.cons (.var 0) (.cons (.cst (.int 4)) .nil))) .nil))) .nil))) (.cons (.call 10 (.cons (.var 0) (.cons (.cst (.int 3)) .nil))) .nil))) (.cons (.cst (.int 1)) .nil))) .nil)))) .nil) .nil) (.cons (.ite (.or (.op .eq (.cons (.var 3) (.cons (.cst (.int 2)) .nil))) (.op .eq (.cons (.op .ix (.cons (.var 1) (.cons (.cst (.int 0)) .nil))) (.cons (.tup .nil) .nil)))) (.cons (.ret (.call 10 (.cons (.var 0) (.cons (.op .pow (.cons (.cst (.int 10)) (.cons (.cst (.int 29)) .nil))) .nil)))) .nil) .nil) (.cons (.asg (.nm 4) (.call 10 (.cons (.var 0) (.cons (.op .len (.cons (.op .ix (.cons (.var 1) (.cons (.cst (.int 0)) .nil))) .nil)) .nil)))) (.cons (.asg (.nm 5) (.op .sum (.cons (.comp (.tp [6, 7]) [6, 7] (.seq (.op (.sl false true) (.cons (.op .ix (.cons (.var 1) (.cons (.cst (.int 0)) .nil))) (.cons (.var 4) .nil)))) .yes (.op .mul (.cons (.var 6) (.cons (.var 7) .nil)))) .nil))) (.cons (.ret (.op .max2 (.cons (.cst (.int 0)) (.cons (.op .add (.cons (.op .add (.cons (.var 5) (.cons (.op .mul (.cons (.op .ix (.cons (.op .ix (.cons (.op .ix (.cons (.var 1) (.cons (.cst (.int 0)) .nil))) (.cons (.var 4) .nil))) (.cons (.cst (.int 0)) .nil))) (.cons (.call 10 (.cons (.var 0) (.cons (.op .add (.cons (.op .ix (.cons (.op .ix (.cons (.op .ix (.cons (.var 1) (.cons (.cst (.int 0)) .nil))) (.cons (.var 4) .nil))) (.cons (.cst (.int 1)) .nil))) (.cons (.cst (.int 1)) .nil))) .nil))) .nil))) .nil))) (.cons (.call 11 (.cons (.var 0) (.cons (.lst (.cons (.cst (.int 0)) (.cons (.cst (.int 0)) (.cons (.cst (.int 1)) (.cons (.op .neg (.cons (.cst (.int 1)) .nil)) .nil))))) .nil))) .nil))) .nil)))) .nil)))))))
theorem ok__law_count (T : Glob K mg cl fa fd) : FnG P w K mg base 5 (fa 18) (fd 18) ["deal", "row"] (spM cl m__law_count) :=
  fn_ok (r := rs [(0, m_is_number), (1, m_is_tuple_of), (2, m_is_ascending), (3, m_is_run), (4, m_has_form), (5, m_tells), (6, m_is_falling), (7, m_checked_falling), (8, m_has), (10, m__law_any), (11, m__law_of), (12, m__law_in), (13, m__law_euclid), (14, m__law_row), (15, m__law_is_number), (16, m__law_is_falling), (17, m__law_near)]) (.of T.F18) sc__law_count rfl rfl fun cd A outer s H E hr gd =>
    (js_cons (js_par2 rfl sc__law_count.nd (ja_cons (je_call1 (cr_sum rfl) sp_sum rfl T.n_sum PyProof.Rows.boot_sum (je_comp (own := [("step", 6), ("times", 7)]) rfl sc__law_count.nd (ji_seq (je_ix (je_var (i := 1)) je_int)) (blkOk_by rfl) (fun _ _ _ _ _ => (pg_tup rfl (pgs_cons (pg_name (i := 6) sc__law_count.nd rfl (by first | exact .inl rfl | exact .inr rfl)) (pgs_cons (pg_name (i := 7) sc__law_count.nd rfl (by first | exact .inl rfl | exact .inr rfl)) pgs_nil)))) (fun _ _ _ _ _ => jc_yes) (fun _ _ _ _ _ => (je_mul (je_var (i := 6)) (je_var (i := 7)))))) (ja_cons (je_callG (fi := 10) (ok__law_any T) (hr.mono (by decide)) gd T.m10 T.F10.kp T.b10 (takes_of rfl rfl rfl rfl) (ja_cons (je_var (i := 0)) (ja_cons je_int ja_nil))) ja_nil))) (js_cons (js_if (jt_eq hr (je_var (i := 3)) je_int) (js_cons (js_ret (je_callG (fi := 10) (ok__law_any T) (hr.mono (by decide)) gd T.m10 T.F10.kp T.b10 (takes_of rfl rfl rfl rfl) (ja_cons (je_var (i := 0)) (ja_cons je_int ja_nil)))) js_nil) js_nil) (js_cons (js_if (jt_eq hr (je_var (i := 3)) je_int) (js_cons (js_ret (je_call2 (call_max2 rfl) sp_max2 rfl T.n_max PyProof.Rows.boot_max je_int (je_sub (je_add (je_add (je_var (i := 2)) (je_mul (je_ix (je_var (i := 1)) je_int) (je_callG (fi := 10) (ok__law_any T) (hr.mono (by decide)) gd T.m10 T.F10.kp T.b10 (takes_of rfl rfl rfl rfl) (ja_cons (je_var (i := 0)) (ja_cons je_int ja_nil))))) (je_callG (fi := 10) (ok__law_any T) (hr.mono (by decide)) gd T.m10 T.F10.kp T.b10 (takes_of rfl rfl rfl rfl) (ja_cons (je_var (i := 0)) (ja_cons je_int ja_nil)))) je_int))) js_nil) js_nil) (js_cons (js_if (PW.pt (jw_or (jt_eq hr (je_var (i := 3)) je_int) (jw_or1 (jt_eq hr (je_ix (je_var (i := 1)) je_int) (je_tup jk_nil))))) (js_cons (js_ret (je_callG (fi := 10) (ok__law_any T) (hr.mono (by decide)) gd T.m10 T.F10.kp T.b10 (takes_of rfl rfl rfl rfl) (ja_cons (je_var (i := 0)) (ja_cons (je_pow je_int je_int) ja_nil)))) js_nil) js_nil) (js_cons (js_set (i := 4) sc__law_count.nd (je_callG (fi := 10) (ok__law_any T) (hr.mono (by decide)) gd T.m10 T.F10.kp T.b10 (takes_of rfl rfl rfl rfl) (ja_cons (je_var (i := 0)) (ja_cons (je_call1 call_len_seq sp_len rfl T.n_len boot_len (je_ix (je_var (i := 1)) je_int)) ja_nil)))) (js_cons (js_set (i := 5) sc__law_count.nd (je_call1 (cr_sum rfl) sp_sum rfl T.n_sum PyProof.Rows.boot_sum (je_comp (own := [("step", 6), ("times", 7)]) rfl sc__law_count.nd (ji_seq (je_sl01 (je_ix (je_var (i := 1)) je_int) (je_var (i := 4)))) (blkOk_by rfl) (fun _ _ _ _ _ => (pg_tup rfl (pgs_cons (pg_name (i := 6) sc__law_count.nd rfl (by first | exact .inl rfl | exact .inr rfl)) (pgs_cons (pg_name (i := 7) sc__law_count.nd rfl (by first | exact .inl rfl | exact .inr rfl)) pgs_nil)))) (fun _ _ _ _ _ => jc_yes) (fun _ _ _ _ _ => (je_mul (je_var (i := 6)) (je_var (i := 7))))))) (js_cons (js_ret (je_call2 (call_max2 rfl) sp_max2 rfl T.n_max PyProof.Rows.boot_max je_int (je_add (je_add (je_var (i := 5)) (je_mul (je_ix (je_ix (je_ix (je_var (i := 1)) je_int) (je_var (i := 4))) je_int) (je_callG (fi := 10) (ok__law_any T) (hr.mono (by decide)) gd T.m10 T.F10.kp T.b10 (takes_of rfl rfl rfl rfl) (ja_cons (je_var (i := 0)) (ja_cons (je_add (je_ix (je_ix (je_ix (je_var (i := 1)) je_int) (je_var (i := 4))) je_int) je_int) ja_nil))))) (je_callG (fi := 11) (ok__law_of T) (hr.mono (by decide)) gd T.m11 T.F11.kp T.b11 (takes_of rfl rfl rfl rfl) (ja_cons (je_var (i := 0)) (ja_cons (je_lst (jk_cons je_int (jk_cons je_int (jk_cons je_int (jk_cons (je_neg je_int) jk_nil))))) ja_nil)))))) js_nil)))))))
theorem sc__law_refused : FnScope ["value", "e"] ["value"] (defScope st__law_refused) := ⟨rfl, rfl, rfl, by decide +kernel, rfl, by decide +kernel, by decide +kernel⟩
def m__law_refused : List M → RF := denF (rs [(0, m_is_number), (1, m_is_tuple_of), (2, m_is_ascending), (3, m_is_run), (4, m_has_form), (5, m_tells), (6, m_is_falling), (7, m_checked_falling), (8, m_has), (10, m__law_any), (11, m__law_of), (12, m__law_in), (13, m__law_euclid), (14, m__law_row), (15, m__law_is_number), (16, m__law_is_falling), (17, m__law_near), (18, m__law_count)]) 1 2
  (.cons (.try_ (.cons (.expr (.call 8 (.cons (.frz 0) (.cons (.cst (.int 3)) .nil)))) .nil) (.cons [4] [] (some 1) (.cons (.ret (.exAt 1)) .nil) .nil)) (.cons (.ret (.cst .non)) .nil))
theorem ok__law_refused (T : Glob K mg cl fa fd) : FnG P w K mg base 7 (fa 19) (fd 19) ["value"] (spM cl m__law_refused) :=
  fn_ok (r := rs [(0, m_is_number), (1, m_is_tuple_of), (2, m_is_ascending), (3, m_is_run), (4, m_has_form), (5, m_tells), (6, m_is_falling), (7, m_checked_falling), (8, m_has), (10, m__law_any), (11, m__law_of), (12, m__law_in), (13, m__law_euclid), (14, m__law_row), (15, m__law_is_number), (16, m__law_is_falling), (17, m__law_near), (18, m__law_count)]) (.of T.F19) sc__law_refused rfl rfl fun cd A outer s H E hr gd =>
    (js_cons (js_try (vs := [.ref (cl 4)]) rfl rfl sc__law_refused.nd (takes_of rfl rfl rfl rfl) (fun V pn xe tk pp => (js_cons (js_expr (je_callG (fi := 8) (ok_has T) (hr.mono (by decide)) gd T.m8 T.F8.kp T.b8 tk (ja_cons (je_frz (i := 0)) (ja_cons je_int ja_nil)))) js_nil)) ⟨T.h4.1, T.h4.2, trivial⟩ (jh_named ⟨rfl, by decide, .inl T.x4⟩ (hj := rfl) (hy := rfl) (fun a oe k dd pn hk hz hf => (js_cons (js_ret (je_exAt (T.e4 _ hk) hz hf)) js_nil)) jh_nil)) (js_cons (js_ret je_non) js_nil))
theorem sc_law : FnScope ["script", "deal", "turn", "row", "again", "n", "value", "good", "told", "x", "y", "z"] ["script"] (defScope st_law) := ⟨rfl, rfl, rfl, by decide +kernel, rfl, by decide +kernel, by decide +kernel⟩
def b_law : Ss := (.cons (.for_ (.nm 2) (.rg1 (.cst (.int 3))) (.cons (.asg (.nm 3) (.call 14 (.cons (.var 1) .nil))) (.cons (.ite (.or (.op (.notB true) (.cons (.call 6 (.cons (.frz 3) .nil)) .nil)) (.or (.op (.notB true) (.cons (.callK 6 [0] (.cons (.frz 3) .nil)) .nil)) (.not (.call 16 (.cons (.frz 3) .nil))))) (.cons (.ret (.cst (.bl false))) .nil) .nil) (.cons (.for_ (.nm 4) (.rg1 (.cst (.int 4))) (.cons (.asg (.nm 5) (.call 18 (.cons (.var 1) (.cons (.frz 3) .nil)))) (.cons (.ite (.or (.eqR false (.call 8 (.cons (.frz 3) (.cons (.frz 5) .nil))) (.call 12 (.cons (.frz 3) (.cons (.frz 5) .nil)))) (.eqR false (.callK 8 [1, 0] (.cons (.frz 5) (.cons (.frz 3) .nil))) (.call 12 (.cons (.frz 3) (.cons (.frz 5) .nil))))) (.cons (.ret (.cst (.bl false))) .nil) .nil) (.cons (.asg (.nm 6) (.call 17 (.cons (.var 1) (.cons (.frz 3) .nil)))) (.cons (.asg (.nm 7) (.call 16 (.cons (.frz 6) .nil))) (.cons (.ite (.or (.eqR false (.call 6 (.cons (.frz 6) .nil)) (.frz 7)) (.and (.not (.var 7)) (.op .ne (.cons (.call 19 (.cons (.frz 6) .nil)) (.cons (.cst (.int 0)) .nil))))) (.cons (.ret (.cst (.bl false))) .nil) .nil) (.cons (.ite (.and (.var 7) (.eqR false (.call 8 (.cons (.frz 6) (.cons (.frz 5) .nil))) (.call 12 (.cons (.frz 6) (.cons (.frz 5) .nil))))) (.cons (.ret (.cst (.bl false))) .nil) .nil) .nil))))))) .nil)))) (.cons (.asg (.nm 8) (.comp (.nm 5) [5] (.rg1 (.cst (.int 25))) (.one (.call 12 (.cons (.frz 3) (.cons (.frz 5) .nil)))) (.frz 5))) (.cons (.ite (.op .ne (.cons (.comp (.nm 5) [5] (.rg1 (.cst (.int 25))) (.one (.call 8 (.cons (.frz 3) (.cons (.frz 5) .nil)))) (.frz 5)) (.cons (.var 8) .nil))) (.cons (.ret (.cst (.bl false))) .nil) .nil) (.cons (.for_ (.nm 9) (.seq (.var 8)) (.cons (.for_ (.nm 10) (.seq (.var 8)) (.cons (.ite (.op .ne (.cons (.comp (.nm 11) [11] (.seq (.var 8)) (.one (.and (.op .le (.cons (.var 11) (.cons (.op .min2 (.cons (.var 9) (.cons (.var 10) .nil))) .nil))) (.and (.op .lt (.cons (.op .sub (.cons (.op .add (.cons (.var 9) (.cons (.var 10) .nil))) (.cons (.var 11) .nil))) (.cons (.cst (.int 25)) .nil))) (.op .nin (.cons (.op .sub (.cons (.op .add (.cons (.var 9) (.cons (.var 10) .nil))) (.cons (.var 11) .nil))) (.cons (.var 8) .nil)))))) (.frz 11)) (.cons (.lst .nil) .nil))) (.cons (.ret (.cst (.bl false))) .nil) .nil) .nil)) .nil)) (.cons (.ret (.op .eq (.cons (.op .ix (.cons (.var 8) (.cons (.cst (.int 0)) .nil))) (.cons (.cst (.int 0)) .nil)))) .nil)))))
def fs_law : Fs := rs [(0, m_is_number), (1, m_is_tuple_of), (2, m_is_ascending), (3, m_is_run), (4, m_has_form), (5, m_tells), (6, m_is_falling), (7, m_checked_falling), (8, m_has), (10, m__law_any), (11, m__law_of), (12, m__law_in), (13, m__law_euclid), (14, m__law_row), (15, m__law_is_number), (16, m__law_is_falling), (17, m__law_near), (18, m__law_count), (19, m__law_refused)]
def MathL : Prop := ∀ (c : Nat) (ns : List Int), ns.length ≤ 63 → (∀ z ∈ ns, Builtin.Int.intBits z ≤ 1048576) → ∃ e, denSs fs_law b_law (none :: some (dealOf 5 c ns) :: List.replicate 10 none) = .rt (.val (.bl true)) e
theorem ok_law (T : Glob K mg cl fa fd) (math : MathL) : FnG P w K mg base 8 (fa 20) (fd 20) ["script"] (spL K 63) :=
  law_ok (k := 7) (cl := cl) (r := fs_law) (b := b_law) (salt := 5) (m := 10) (.of T.F20) sc_law rfl (by decide) math fun cd A outer s H E hr gd =>
    pss_cons (ps_set (i := 1) sc_law.nd rfl (by first | exact .inl rfl | exact .inr rfl) (pe_callG (E := WE (fun cls d _ H => E cls d H)) (ok__law_draw T) (hr.mono (by decide)) gd T.m9 T.F9.kp T.b9 (fun σ => passAt (takes_of rfl rfl rfl rfl) σ) (pa_cons (pv 0) (pa_cons pe_int pa_nil)))) (js_cons (js_for (passes_of rfl) rfl (ji_rg1 rfl T.n_range je_int) (pg_name (i := 2) sc_law.nd rfl (by first | exact .inl rfl | exact .inr rfl)) (js_cons (js_set (i := 3) sc_law.nd (je_callG (fi := 14) (ok__law_row T) (hr.mono (by decide)) gd T.m14 T.F14.kp T.b14 (takes_of rfl rfl rfl rfl) (ja_cons (je_var (i := 1)) ja_nil))) (js_cons (js_if (PW.pt (jw_or (jt_notB (je_callG (fi := 6) (ok_is_falling T) (hr.mono (by decide)) gd T.m6 T.F6.kp T.b6 (takes_of rfl rfl rfl rfl) (ja_cons (je_frz (i := 3)) ja_nil))) (jw_or (jt_notB (je_callK (fi := 6) (ks := [0]) (ok_is_falling T) (hr.mono (by decide)) gd T.m6 T.F6.kp T.k6_value (takes_of rfl rfl rfl rfl) (jn_cons (je_frz (i := 3)) jn_nil))) (jw_or1 (jt_not (jt_val (je_callG (fi := 16) (ok__law_is_falling T) (hr.mono (by decide)) gd T.m16 T.F16.kp T.b16 (takes_of rfl rfl rfl rfl) (ja_cons (je_frz (i := 3)) ja_nil)))))))) (js_cons (js_ret je_bl) js_nil) js_nil) (js_cons (js_for (passes_of rfl) rfl (ji_rg1 rfl T.n_range je_int) (pg_name (i := 4) sc_law.nd rfl (by first | exact .inl rfl | exact .inr rfl)) (js_cons (js_set (i := 5) sc_law.nd (je_callG (fi := 18) (ok__law_count T) (hr.mono (by decide)) gd T.m18 T.F18.kp T.b18 (takes_of rfl rfl rfl rfl) (ja_cons (je_var (i := 1)) (ja_cons (je_frz (i := 3)) ja_nil)))) (js_cons (js_if (PW.pt (jw_or (jt_neR hr gd rfl T.n_repr (je_callG (fi := 8) (ok_has T) (hr.mono (by decide)) gd T.m8 T.F8.kp T.b8 (takes_of rfl rfl rfl rfl) (ja_cons (je_frz (i := 3)) (ja_cons (je_frz (i := 5)) ja_nil))) (je_callG (fi := 12) (ok__law_in T) (hr.mono (by decide)) gd T.m12 T.F12.kp T.b12 (takes_of rfl rfl rfl rfl) (ja_cons (je_frz (i := 3)) (ja_cons (je_frz (i := 5)) ja_nil)))) (jw_or1 (jt_neR hr gd rfl T.n_repr (je_callK (fi := 8) (ks := [1, 0]) (ok_has T) (hr.mono (by decide)) gd T.m8 T.F8.kp T.k8_count_falling (takes_of rfl rfl rfl rfl) (jn_cons (je_frz (i := 5)) (jn_cons (je_frz (i := 3)) jn_nil))) (je_callG (fi := 12) (ok__law_in T) (hr.mono (by decide)) gd T.m12 T.F12.kp T.b12 (takes_of rfl rfl rfl rfl) (ja_cons (je_frz (i := 3)) (ja_cons (je_frz (i := 5)) ja_nil))))))) (js_cons (js_ret je_bl) js_nil) js_nil) (js_cons (js_set (i := 6) sc_law.nd (je_callG (fi := 17) (ok__law_near T) (hr.mono (by decide)) gd T.m17 T.F17.kp T.b17 (takes_of rfl rfl rfl rfl) (ja_cons (je_var (i := 1)) (ja_cons (je_frz (i := 3)) ja_nil)))) (js_cons (js_set (i := 7) sc_law.nd (je_callG (fi := 16) (ok__law_is_falling T) (hr.mono (by decide)) gd T.m16 T.F16.kp T.b16 (takes_of rfl rfl rfl rfl) (ja_cons (je_frz (i := 6)) ja_nil))) (js_cons (js_if (PW.pt (jw_or (jt_neR hr gd rfl T.n_repr (je_callG (fi := 6) (ok_is_falling T) (hr.mono (by decide)) gd T.m6 T.F6.kp T.b6 (takes_of rfl rfl rfl rfl) (ja_cons (je_frz (i := 6)) ja_nil)) (je_frz (i := 7))) (jw_or1 (PW.pt (jw_and (jt_not (jt_val (je_var (i := 7)))) (jw_and1 (jt_ne hr (je_callG (fi := 19) (ok__law_refused T) (hr.mono (by decide)) gd T.m19 T.F19.kp T.b19 (takes_of rfl rfl rfl rfl) (ja_cons (je_frz (i := 6)) ja_nil)) je_int))))))) (js_cons (js_ret je_bl) js_nil) js_nil) (js_cons (js_if (PW.pt (jw_and (jt_val (je_var (i := 7))) (jw_and1 (jt_neR hr gd rfl T.n_repr (je_callG (fi := 8) (ok_has T) (hr.mono (by decide)) gd T.m8 T.F8.kp T.b8 (takes_of rfl rfl rfl rfl) (ja_cons (je_frz (i := 6)) (ja_cons (je_frz (i := 5)) ja_nil))) (je_callG (fi := 12) (ok__law_in T) (hr.mono (by decide)) gd T.m12 T.F12.kp T.b12 (takes_of rfl rfl rfl rfl) (ja_cons (je_frz (i := 6)) (ja_cons (je_frz (i := 5)) ja_nil))))))) (js_cons (js_ret je_bl) js_nil) js_nil) js_nil))))))) js_nil)))) (js_cons (js_set (i := 8) sc_law.nd (je_comp (own := [("n", 5)]) rfl sc_law.nd (ji_rg1 rfl T.n_range je_int) (blkOk_by rfl) (fun _ _ _ _ _ => (pg_name (i := 5) sc_law.nd rfl (by first | exact .inl rfl | exact .inr rfl))) (fun _ _ _ _ _ => (jc_one (jt_val (je_callG (fi := 12) (ok__law_in T) (hr.mono (by decide)) gd T.m12 T.F12.kp T.b12 takes0 (ja_cons (je_frz (i := 3)) (ja_cons (je_frz (i := 5)) ja_nil)))))) (fun _ _ _ _ _ => (je_frz (i := 5))))) (js_cons (js_if (jt_ne hr (je_comp (own := [("n", 5)]) rfl sc_law.nd (ji_rg1 rfl T.n_range je_int) (blkOk_by rfl) (fun _ _ _ _ _ => (pg_name (i := 5) sc_law.nd rfl (by first | exact .inl rfl | exact .inr rfl))) (fun _ _ _ _ _ => (jc_one (jt_val (je_callG (fi := 8) (ok_has T) (hr.mono (by decide)) gd T.m8 T.F8.kp T.b8 takes0 (ja_cons (je_frz (i := 3)) (ja_cons (je_frz (i := 5)) ja_nil)))))) (fun _ _ _ _ _ => (je_frz (i := 5)))) (je_var (i := 8))) (js_cons (js_ret je_bl) js_nil) js_nil) (js_cons (js_for (passes_of rfl) rfl (ji_seq (je_var (i := 8))) (pg_name (i := 9) sc_law.nd rfl (by first | exact .inl rfl | exact .inr rfl)) (js_cons (js_for (passes_of rfl) rfl (ji_seq (je_var (i := 8))) (pg_name (i := 10) sc_law.nd rfl (by first | exact .inl rfl | exact .inr rfl)) (js_cons (js_if (jt_ne hr (je_comp (own := [("z", 11)]) rfl sc_law.nd (ji_seq (je_var (i := 8))) (blkOk_by rfl) (fun _ _ _ _ _ => (pg_name (i := 11) sc_law.nd rfl (by first | exact .inl rfl | exact .inr rfl))) (fun _ _ _ _ _ => (jc_one (PW.pt (jw_and (jt_le (je_var (i := 11)) (je_call2 (call_min2 rfl) sp_min2 rfl T.n_min PyProof.Rows.boot_min (je_var (i := 9)) (je_var (i := 10)))) (jw_and (jt_lt (je_sub (je_add (je_var (i := 9)) (je_var (i := 10))) (je_var (i := 11))) je_int) (jw_and1 (jt_nin (je_sub (je_add (je_var (i := 9)) (je_var (i := 10))) (je_var (i := 11))) (je_var (i := 8))))))))) (fun _ _ _ _ _ => (je_frz (i := 11)))) (je_lst jk_nil)) (js_cons (js_ret je_bl) js_nil) js_nil) js_nil)) js_nil)) (js_cons (js_ret (je_eq hr (je_ix (je_var (i := 8)) je_int) je_int)) js_nil)))))
end
end Rx.K05

/-! K05X -/
/-! RxTx: the texts of defs that many laws share (printed). -/
set_option linter.all false
set_option maxRecDepth 100000
namespace Rx.K05
open Rx
open PySem (Str)
local macro_rules
  | `(tactic| simp!) => `(tactic| simp only [slot_z, slot_1, slot_2, slot_3, slot_4, slot_5, slot_6, slot_7, slot_8, slot_9, slot_10, slot_11, slot_12, q_var, q_frz, q_cst, q_op, q_call, q_callK, q_tup, q_lst, q_ite, q_and, q_or, q_not, q_chain, q_pop, q_exAt, es_nil, es_cons, ks_nil, ks_cons, t_and, t_or, t_not, t_op, t_var, t_call, t_callK, t_chain, t_cst, c_yes, c_one, b_ok, b_exc, o_ok, o_exc, of_some, g_val, g_new, g_ref, gs_nil, gs_cons, k_val, k_new, tk_val, tk_new, tk_deal, gv_val, gv_new, gv_ref, m_val, m_new, p_nm, p_tp, p_tpp, putD_nil, putD_cons, putM_nil, putM_cons, put_def, free_def, ts_nil, ts_cons, t1_ok, t1_exc, tr_bl, tr_non, ss_nil, ss_cons, s_asg, s_par, s_aug, s_app, s_ext, s_pop, s_expr, s_doc, s_ret, s_retN, s_pass, s_brk, s_cnt, s_ite, s_raise, s_setix, s_ins, i_seq, i_rg1, i_rg2, i_enum, i_zip, i_rev, sq_lst, sq_tup, wl_vs, v_add, v_sub, v_neg, v_lt, v_le, v_gt, v_ge, v_isN, v_notN, v_isB, v_notB, v_rev, v_lenL, v_lenT, v_abs, v_int, v_listL, v_listT, v_tupleL, v_tupleT, v_max2, v_min2, v_isa, Option.bind_some, List.set_cons_zero, List.set_cons_succ, List.length_cons, List.length_nil, if_true, if_false, reduceIte, Bool.false_eq_true, decide_true, decide_false, isOwn])
  | `(tactic| simp! [$ls,*]) => `(tactic| simp only [slot_z, slot_1, slot_2, slot_3, slot_4, slot_5, slot_6, slot_7, slot_8, slot_9, slot_10, slot_11, slot_12, q_var, q_frz, q_cst, q_op, q_call, q_callK, q_tup, q_lst, q_ite, q_and, q_or, q_not, q_chain, q_pop, q_exAt, es_nil, es_cons, ks_nil, ks_cons, t_and, t_or, t_not, t_op, t_var, t_call, t_callK, t_chain, t_cst, c_yes, c_one, b_ok, b_exc, o_ok, o_exc, of_some, g_val, g_new, g_ref, gs_nil, gs_cons, k_val, k_new, tk_val, tk_new, tk_deal, gv_val, gv_new, gv_ref, m_val, m_new, p_nm, p_tp, p_tpp, putD_nil, putD_cons, putM_nil, putM_cons, put_def, free_def, ts_nil, ts_cons, t1_ok, t1_exc, tr_bl, tr_non, ss_nil, ss_cons, s_asg, s_par, s_aug, s_app, s_ext, s_pop, s_expr, s_doc, s_ret, s_retN, s_pass, s_brk, s_cnt, s_ite, s_raise, s_setix, s_ins, i_seq, i_rg1, i_rg2, i_enum, i_zip, i_rev, sq_lst, sq_tup, wl_vs, v_add, v_sub, v_neg, v_lt, v_le, v_gt, v_ge, v_isN, v_notN, v_isB, v_notB, v_rev, v_lenL, v_lenT, v_abs, v_int, v_listL, v_listT, v_tupleL, v_tupleT, v_max2, v_min2, v_isa, Option.bind_some, List.set_cons_zero, List.set_cons_succ, List.length_cons, List.length_nil, if_true, if_false, reduceIte, Bool.false_eq_true, decide_true, decide_false, isOwn, $ls,*])
local macro_rules
  | `(tactic| simp_arith!) => `(tactic| simp (config := { dsimp := false, implicitDefEqProofs := false }) only [↓wp_bind, ↓wp_o, ↓wo_cons, ↓wp_test1, ↓wp_ok, ↓w_op, ↓w_call, ↓w_callK, ↓w_tup, ↓w_lst, ↓w_ite, ↓w_es_nil, ↓w_es, ↓w_ks_nil, ↓w_ks, keptQ_val, keptQ_new, ↓w_and, ↓w_or, ↓w_not, ↓w_top, ↓w_tvar, ↓w_tcall, ↓w_tcallK, ↓w_teqR, ↓w_asg, ↓w_ret, ↓w_site, ↓w_expr, ↓w_par, ↓w_eqR, slot_z, slot_1, slot_2, slot_3, slot_4, slot_5, slot_6, slot_7, slot_8, slot_9, slot_10, slot_11, slot_12, q_var, q_frz, q_cst, q_op, q_call, q_callK, q_tup, q_lst, q_ite, q_and, q_or, q_not, q_chain, q_pop, q_exAt, es_nil, es_cons, ks_nil, ks_cons, t_and, t_or, t_not, t_op, t_var, t_call, t_callK, t_chain, t_cst, t_eqR, q_eqR, c_yes, c_one, b_ok, b_exc, o_ok, o_exc, of_some, g_val, g_new, g_ref, gs_nil, gs_cons, k_val, k_new, tk_val, tk_new, tk_deal, gv_val, gv_new, gv_ref, m_val, m_new, p_nm, p_tp, p_tpp, putD_nil, putD_cons, putM_nil, putM_cons, put_def, free_def, ts_nil, ts_cons, t1_ok, t1_exc, tr_bl, tr_non, ss_nil, s_asg, s_par, s_aug, s_app, s_ext, s_pop, s_expr, s_doc, s_ret, s_retN, s_pass, s_brk, s_cnt, s_ite, s_raise, s_setix, s_ins, i_seq, i_rg1, i_rg2, i_enum, i_zip, i_rev, sq_lst, sq_tup, wl_vs, v_add, v_sub, v_neg, v_lt, v_le, v_gt, v_ge, v_isN, v_notN, v_isB, v_notB, v_rev, v_lenL, v_lenT, v_abs, v_int, v_listL, v_listT, v_tupleL, v_tupleT, v_max2, v_min2, v_isa, Option.bind_some, List.set_cons_zero, List.set_cons_succ, List.length_cons, List.length_nil, if_true, if_false, reduceIte, Bool.false_eq_true, Bool.true_eq_false, decide_true, decide_false, isOwn, wp_ok, wp_exc, wp_bind, wp_o, wp_ite, wo_ite, wo_nx, wo_rt, wo_bk, wo_ct, wo_exc, wo_cons, wp_test1, tst_mk, v_eqI, v_neI, decide_eq_true_eq, Bool.not_eq_true', decide_eq_false_iff_not, Nat.reduceAdd, Nat.reduceLT, Nat.reduceLeDiff, Nat.zero_add, and_true, true_and])
  | `(tactic| simp_arith! [$ls,*]) => `(tactic| simp (config := { dsimp := false, implicitDefEqProofs := false }) only [↓wp_bind, ↓wp_o, ↓wo_cons, ↓wp_test1, ↓wp_ok, ↓w_op, ↓w_call, ↓w_callK, ↓w_tup, ↓w_lst, ↓w_ite, ↓w_es_nil, ↓w_es, ↓w_ks_nil, ↓w_ks, keptQ_val, keptQ_new, ↓w_and, ↓w_or, ↓w_not, ↓w_top, ↓w_tvar, ↓w_tcall, ↓w_tcallK, ↓w_teqR, ↓w_asg, ↓w_ret, ↓w_site, ↓w_expr, ↓w_par, ↓w_eqR, slot_z, slot_1, slot_2, slot_3, slot_4, slot_5, slot_6, slot_7, slot_8, slot_9, slot_10, slot_11, slot_12, q_var, q_frz, q_cst, q_op, q_call, q_callK, q_tup, q_lst, q_ite, q_and, q_or, q_not, q_chain, q_pop, q_exAt, es_nil, es_cons, ks_nil, ks_cons, t_and, t_or, t_not, t_op, t_var, t_call, t_callK, t_chain, t_cst, t_eqR, q_eqR, c_yes, c_one, b_ok, b_exc, o_ok, o_exc, of_some, g_val, g_new, g_ref, gs_nil, gs_cons, k_val, k_new, tk_val, tk_new, tk_deal, gv_val, gv_new, gv_ref, m_val, m_new, p_nm, p_tp, p_tpp, putD_nil, putD_cons, putM_nil, putM_cons, put_def, free_def, ts_nil, ts_cons, t1_ok, t1_exc, tr_bl, tr_non, ss_nil, s_asg, s_par, s_aug, s_app, s_ext, s_pop, s_expr, s_doc, s_ret, s_retN, s_pass, s_brk, s_cnt, s_ite, s_raise, s_setix, s_ins, i_seq, i_rg1, i_rg2, i_enum, i_zip, i_rev, sq_lst, sq_tup, wl_vs, v_add, v_sub, v_neg, v_lt, v_le, v_gt, v_ge, v_isN, v_notN, v_isB, v_notB, v_rev, v_lenL, v_lenT, v_abs, v_int, v_listL, v_listT, v_tupleL, v_tupleT, v_max2, v_min2, v_isa, Option.bind_some, List.set_cons_zero, List.set_cons_succ, List.length_cons, List.length_nil, if_true, if_false, reduceIte, Bool.false_eq_true, Bool.true_eq_false, decide_true, decide_false, isOwn, wp_ok, wp_exc, wp_bind, wp_o, wp_ite, wo_ite, wo_nx, wo_rt, wo_bk, wo_ct, wo_exc, wo_cons, wp_test1, tst_mk, v_eqI, v_neI, decide_eq_true_eq, Bool.not_eq_true', decide_eq_false_iff_not, Nat.reduceAdd, Nat.reduceLT, Nat.reduceLeDiff, Nat.zero_add, and_true, true_and, $ls,*])
def B_law_2 : Ss := (.cons (.asg (.nm 5) (.call 18 (.cons (.var 1) (.cons (.frz 3) .nil)))) (.cons (.ite (.or (.eqR false (.call 8 (.cons (.frz 3) (.cons (.frz 5) .nil))) (.call 12 (.cons (.frz 3) (.cons (.frz 5) .nil)))) (.eqR false (.callK 8 [1, 0] (.cons (.frz 5) (.cons (.frz 3) .nil))) (.call 12 (.cons (.frz 3) (.cons (.frz 5) .nil))))) (.cons (.ret (.cst (.bl false))) .nil) .nil) (.cons (.asg (.nm 6) (.call 17 (.cons (.var 1) (.cons (.frz 3) .nil)))) (.cons (.asg (.nm 7) (.call 16 (.cons (.frz 6) .nil))) (.cons (.ite (.or (.eqR false (.call 6 (.cons (.frz 6) .nil)) (.frz 7)) (.and (.not (.var 7)) (.op .ne (.cons (.call 19 (.cons (.frz 6) .nil)) (.cons (.cst (.int 0)) .nil))))) (.cons (.ret (.cst (.bl false))) .nil) .nil) (.cons (.ite (.and (.var 7) (.eqR false (.call 8 (.cons (.frz 6) (.cons (.frz 5) .nil))) (.call 12 (.cons (.frz 6) (.cons (.frz 5) .nil))))) (.cons (.ret (.cst (.bl false))) .nil) .nil) .nil))))))
def B_law_2t : Ss := .nil
def B_law_1 : Ss := (.cons (.asg (.nm 3) (.call 14 (.cons (.var 1) .nil))) (.cons (.ite (.or (.op (.notB true) (.cons (.call 6 (.cons (.frz 3) .nil)) .nil)) (.or (.op (.notB true) (.cons (.callK 6 [0] (.cons (.frz 3) .nil)) .nil)) (.not (.call 16 (.cons (.frz 3) .nil))))) (.cons (.ret (.cst (.bl false))) .nil) .nil) (.cons (.for_ (.nm 4) (.rg1 (.cst (.int 4))) B_law_2) B_law_2t)))
def B_law_4 : Ss := (.cons (.ite (.op .ne (.cons (.comp (.nm 11) [11] (.seq (.var 8)) (.one (.and (.op .le (.cons (.var 11) (.cons (.op .min2 (.cons (.var 9) (.cons (.var 10) .nil))) .nil))) (.and (.op .lt (.cons (.op .sub (.cons (.op .add (.cons (.var 9) (.cons (.var 10) .nil))) (.cons (.var 11) .nil))) (.cons (.cst (.int 25)) .nil))) (.op .nin (.cons (.op .sub (.cons (.op .add (.cons (.var 9) (.cons (.var 10) .nil))) (.cons (.var 11) .nil))) (.cons (.var 8) .nil)))))) (.frz 11)) (.cons (.lst .nil) .nil))) (.cons (.ret (.cst (.bl false))) .nil) .nil) .nil)
def B_law_4t : Ss := .nil
def B_law_3 : Ss := (.cons (.for_ (.nm 10) (.seq (.var 8)) B_law_4) B_law_4t)
def B_law_3t : Ss := (.cons (.ret (.op .eq (.cons (.op .ix (.cons (.var 8) (.cons (.cst (.int 0)) .nil))) (.cons (.cst (.int 0)) .nil)))) .nil)
def B_law_1t : Ss := (.cons (.asg (.nm 8) (.comp (.nm 5) [5] (.rg1 (.cst (.int 25))) (.one (.call 12 (.cons (.frz 3) (.cons (.frz 5) .nil)))) (.frz 5))) (.cons (.ite (.op .ne (.cons (.comp (.nm 5) [5] (.rg1 (.cst (.int 25))) (.one (.call 8 (.cons (.frz 3) (.cons (.frz 5) .nil)))) (.frz 5)) (.cons (.var 8) .nil))) (.cons (.ret (.cst (.bl false))) .nil) .nil) (.cons (.for_ (.nm 9) (.seq (.var 8)) B_law_3) B_law_3t)))
/-- law: slots script deal turn row again n value good told x y z; number 20 -/
def B_law : Ss := (.cons (.asg (.nm 1) (.call 9 (.cons (.frz 0) (.cons (.cst (.int 5)) .nil)))) (.cons (.for_ (.nm 2) (.rg1 (.cst (.int 3))) B_law_1) B_law_1t))
end Rx.K05

/-! K05M -/
set_option linter.all false
set_option Elab.async false
set_option maxRecDepth 100000
set_option maxHeartbeats 1000000
namespace Rx.K05
open PySem PySem.Spec PyProof.Rows L2 Rx
local macro_rules
  | `(tactic| simp!) => `(tactic| simp only [slot_z, slot_1, slot_2, slot_3, slot_4, slot_5, slot_6, slot_7, slot_8, slot_9, slot_10, slot_11, slot_12, q_var, q_frz, q_cst, q_op, q_call, q_callK, q_tup, q_lst, q_ite, q_and, q_or, q_not, q_chain, q_pop, q_exAt, es_nil, es_cons, ks_nil, ks_cons, t_and, t_or, t_not, t_op, t_var, t_call, t_callK, t_chain, t_cst, c_yes, c_one, b_ok, b_exc, o_ok, o_exc, of_some, g_val, g_new, g_ref, gs_nil, gs_cons, k_val, k_new, tk_val, tk_new, tk_deal, gv_val, gv_new, gv_ref, m_val, m_new, p_nm, p_tp, p_tpp, putD_nil, putD_cons, putM_nil, putM_cons, put_def, free_def, ts_nil, ts_cons, t1_ok, t1_exc, tr_bl, tr_non, ss_nil, ss_cons, s_asg, s_par, s_aug, s_app, s_ext, s_pop, s_expr, s_doc, s_ret, s_retN, s_pass, s_brk, s_cnt, s_ite, s_raise, s_setix, s_ins, i_seq, i_rg1, i_rg2, i_enum, i_zip, i_rev, sq_lst, sq_tup, wl_vs, v_add, v_sub, v_neg, v_lt, v_le, v_gt, v_ge, v_isN, v_notN, v_isB, v_notB, v_rev, v_lenL, v_lenT, v_abs, v_int, v_listL, v_listT, v_tupleL, v_tupleT, v_max2, v_min2, v_isa, Option.bind_some, List.set_cons_zero, List.set_cons_succ, List.length_cons, List.length_nil, if_true, if_false, reduceIte, Bool.false_eq_true, decide_true, decide_false, isOwn])
  | `(tactic| simp! [$ls,*]) => `(tactic| simp only [slot_z, slot_1, slot_2, slot_3, slot_4, slot_5, slot_6, slot_7, slot_8, slot_9, slot_10, slot_11, slot_12, q_var, q_frz, q_cst, q_op, q_call, q_callK, q_tup, q_lst, q_ite, q_and, q_or, q_not, q_chain, q_pop, q_exAt, es_nil, es_cons, ks_nil, ks_cons, t_and, t_or, t_not, t_op, t_var, t_call, t_callK, t_chain, t_cst, c_yes, c_one, b_ok, b_exc, o_ok, o_exc, of_some, g_val, g_new, g_ref, gs_nil, gs_cons, k_val, k_new, tk_val, tk_new, tk_deal, gv_val, gv_new, gv_ref, m_val, m_new, p_nm, p_tp, p_tpp, putD_nil, putD_cons, putM_nil, putM_cons, put_def, free_def, ts_nil, ts_cons, t1_ok, t1_exc, tr_bl, tr_non, ss_nil, ss_cons, s_asg, s_par, s_aug, s_app, s_ext, s_pop, s_expr, s_doc, s_ret, s_retN, s_pass, s_brk, s_cnt, s_ite, s_raise, s_setix, s_ins, i_seq, i_rg1, i_rg2, i_enum, i_zip, i_rev, sq_lst, sq_tup, wl_vs, v_add, v_sub, v_neg, v_lt, v_le, v_gt, v_ge, v_isN, v_notN, v_isB, v_notB, v_rev, v_lenL, v_lenT, v_abs, v_int, v_listL, v_listT, v_tupleL, v_tupleT, v_max2, v_min2, v_isa, Option.bind_some, List.set_cons_zero, List.set_cons_succ, List.length_cons, List.length_nil, if_true, if_false, reduceIte, Bool.false_eq_true, decide_true, decide_false, isOwn, $ls,*])
local macro_rules
  | `(tactic| simp_arith!) => `(tactic| simp (config := { dsimp := false, implicitDefEqProofs := false }) only [↓wp_bind, ↓wp_o, ↓wo_cons, ↓wp_test1, ↓wp_ok, ↓w_op, ↓w_call, ↓w_callK, ↓w_tup, ↓w_lst, ↓w_ite, ↓w_es_nil, ↓w_es, ↓w_ks_nil, ↓w_ks, keptQ_val, keptQ_new, ↓w_and, ↓w_or, ↓w_not, ↓w_top, ↓w_tvar, ↓w_tcall, ↓w_tcallK, ↓w_teqR, ↓w_asg, ↓w_ret, ↓w_site, ↓w_expr, ↓w_par, ↓w_eqR, slot_z, slot_1, slot_2, slot_3, slot_4, slot_5, slot_6, slot_7, slot_8, slot_9, slot_10, slot_11, slot_12, q_var, q_frz, q_cst, q_op, q_call, q_callK, q_tup, q_lst, q_ite, q_and, q_or, q_not, q_chain, q_pop, q_exAt, es_nil, es_cons, ks_nil, ks_cons, t_and, t_or, t_not, t_op, t_var, t_call, t_callK, t_chain, t_cst, t_eqR, q_eqR, c_yes, c_one, b_ok, b_exc, o_ok, o_exc, of_some, g_val, g_new, g_ref, gs_nil, gs_cons, k_val, k_new, tk_val, tk_new, tk_deal, gv_val, gv_new, gv_ref, m_val, m_new, p_nm, p_tp, p_tpp, putD_nil, putD_cons, putM_nil, putM_cons, put_def, free_def, ts_nil, ts_cons, t1_ok, t1_exc, tr_bl, tr_non, ss_nil, s_asg, s_par, s_aug, s_app, s_ext, s_pop, s_expr, s_doc, s_ret, s_retN, s_pass, s_brk, s_cnt, s_ite, s_raise, s_setix, s_ins, i_seq, i_rg1, i_rg2, i_enum, i_zip, i_rev, sq_lst, sq_tup, wl_vs, v_add, v_sub, v_neg, v_lt, v_le, v_gt, v_ge, v_isN, v_notN, v_isB, v_notB, v_rev, v_lenL, v_lenT, v_abs, v_int, v_listL, v_listT, v_tupleL, v_tupleT, v_max2, v_min2, v_isa, Option.bind_some, List.set_cons_zero, List.set_cons_succ, List.length_cons, List.length_nil, if_true, if_false, reduceIte, Bool.false_eq_true, Bool.true_eq_false, decide_true, decide_false, isOwn, wp_ok, wp_exc, wp_bind, wp_o, wp_ite, wo_ite, wo_nx, wo_rt, wo_bk, wo_ct, wo_exc, wo_cons, wp_test1, tst_mk, v_eqI, v_neI, decide_eq_true_eq, Bool.not_eq_true', decide_eq_false_iff_not, Nat.reduceAdd, Nat.reduceLT, Nat.reduceLeDiff, Nat.zero_add, and_true, true_and])
  | `(tactic| simp_arith! [$ls,*]) => `(tactic| simp (config := { dsimp := false, implicitDefEqProofs := false }) only [↓wp_bind, ↓wp_o, ↓wo_cons, ↓wp_test1, ↓wp_ok, ↓w_op, ↓w_call, ↓w_callK, ↓w_tup, ↓w_lst, ↓w_ite, ↓w_es_nil, ↓w_es, ↓w_ks_nil, ↓w_ks, keptQ_val, keptQ_new, ↓w_and, ↓w_or, ↓w_not, ↓w_top, ↓w_tvar, ↓w_tcall, ↓w_tcallK, ↓w_teqR, ↓w_asg, ↓w_ret, ↓w_site, ↓w_expr, ↓w_par, ↓w_eqR, slot_z, slot_1, slot_2, slot_3, slot_4, slot_5, slot_6, slot_7, slot_8, slot_9, slot_10, slot_11, slot_12, q_var, q_frz, q_cst, q_op, q_call, q_callK, q_tup, q_lst, q_ite, q_and, q_or, q_not, q_chain, q_pop, q_exAt, es_nil, es_cons, ks_nil, ks_cons, t_and, t_or, t_not, t_op, t_var, t_call, t_callK, t_chain, t_cst, t_eqR, q_eqR, c_yes, c_one, b_ok, b_exc, o_ok, o_exc, of_some, g_val, g_new, g_ref, gs_nil, gs_cons, k_val, k_new, tk_val, tk_new, tk_deal, gv_val, gv_new, gv_ref, m_val, m_new, p_nm, p_tp, p_tpp, putD_nil, putD_cons, putM_nil, putM_cons, put_def, free_def, ts_nil, ts_cons, t1_ok, t1_exc, tr_bl, tr_non, ss_nil, s_asg, s_par, s_aug, s_app, s_ext, s_pop, s_expr, s_doc, s_ret, s_retN, s_pass, s_brk, s_cnt, s_ite, s_raise, s_setix, s_ins, i_seq, i_rg1, i_rg2, i_enum, i_zip, i_rev, sq_lst, sq_tup, wl_vs, v_add, v_sub, v_neg, v_lt, v_le, v_gt, v_ge, v_isN, v_notN, v_isB, v_notB, v_rev, v_lenL, v_lenT, v_abs, v_int, v_listL, v_listT, v_tupleL, v_tupleT, v_max2, v_min2, v_isa, Option.bind_some, List.set_cons_zero, List.set_cons_succ, List.length_cons, List.length_nil, if_true, if_false, reduceIte, Bool.false_eq_true, Bool.true_eq_false, decide_true, decide_false, isOwn, wp_ok, wp_exc, wp_bind, wp_o, wp_ite, wo_ite, wo_nx, wo_rt, wo_bk, wo_ct, wo_exc, wo_cons, wp_test1, tst_mk, v_eqI, v_neI, decide_eq_true_eq, Bool.not_eq_true', decide_eq_false_iff_not, Nat.reduceAdd, Nat.reduceLT, Nat.reduceLeDiff, Nat.zero_add, and_true, true_and, $ls,*])
theorem F0 (d : D) : m_is_number [.val d] = .ok (.val (.bl (isNum d))) [.val d] := f_is_number d
theorem F1 (d : D) (n : Int) : m_is_tuple_of [.val d, .val (.int n)] = .ok (.val (.bl (isTup n d))) [.val d, .val (.int n)] := f_is_tuple_of d n
theorem F2 {xs : List Int} (hl : xs.length ≤ maxLen) : m_is_ascending [.val (.lst (xs.map .int))] = .ok (.val (.bl (ascB xs))) [.val (.lst (xs.map .int))] := f_is_ascending hl
theorem F3 (d : D) : m_is_run [.val d] = .ok (.val (.bl (isRun d))) [.val d] := f_is_run F0 F1 d
theorem F4 {d : D} (m : Mild d) : m_has_form [.val d] = .ok (.val (.bl (formB d))) [.val d] := f_has_form F0 F1 F3 m
theorem F5 {rs : List (Int × Int)} {e n : Int} (ok : RunsOk rs) (he : 0 ≤ e) : m_tells [.val (.tup (rs.map runD)), .val (.int e), .val (.int n)] = .ok (.val (.bl (inF rs e 0 n))) [.val (.tup (rs.map runD)), .val (.int e), .val (.int n)] := f_tells ok he
theorem F6 {d : D} (m : Mild d) : m_is_falling [.val d] = .ok (.val (.bl (isFall d))) [.val d] := f_is_falling F2 F4 F5 m
theorem F7 {d v : D} (m : Mild d) (h : isFall d = true) : m_checked_falling [.val d, .val v] = .ok (.val d) [.val d, .val v] := f_checked_falling F6 m h
theorem X7 {d v : D} (m : Mild d) (h : isFall d = false) : m_checked_falling [.val d, .val v] = .exc 4 v := x_checked_falling F6 m h
theorem F8 {rs : List (Int × Int)} {e n : Int} (m : Mild (rowD rs e)) (h : Falls rs e) : m_has [.val (rowD rs e), .val (.int n)] = .ok (.val (.bl (inF rs e 0 n))) [.val (rowD rs e), .val (.int n)] := f_has F5 F7 m h
theorem X8 {d v : D} (m : Mild d) (h : isFall d = false) : m_has [.val d, .val v] = .exc 4 (.int 0) := x_has X7 m h
theorem F10 : m__law_any = anyF := rfl
theorem F11 {b : Nat × List Int} {s : Int} {xs : List D} (hd : Dealt b s) (h0 : 0 < xs.length) (h1 : xs.length ≤ 1000) :
    (m__law_of [.deal true b s, .val (.lst xs)]).wp (fun m ms => ∃ d b' s', m = .val d ∧ ms = [.deal true b' s', .val (.lst xs)] ∧ b'.1 = b.1 ∧ Dealt b' s' ∧ d ∈ xs) fun _ _ => False := w_of rfl hd h0 h1
theorem F12 {rs : List (Int × Int)} {e n : Int} (ok : RunsOk rs) (he : 0 ≤ e) : m__law_in [.val (rowD rs e), .val (.int n)] = .ok (.val (.bl (inF rs e 0 n))) [.val (rowD rs e), .val (.int n)] := f_law_in ok he
theorem F13 {L : List Int} (ok : EucOk L) : m__law_euclid [.val (.lst (L.map .int))] = .ok (.val (eucD L)) [.val (.lst (L.map .int))] := f_euclid ok
theorem F14 {b : Nat × List Int} {s : Int} (hd : Dealt b s) : (m__law_row [.deal true b s]).wp (Drw b IsRow) fun _ _ => False := w_row rfl F11 F13 hd
theorem F15 (d : D) : m__law_is_number [.val d] = .ok (.val (.bl (isNum d))) [.val d] := f_law_is_number d
theorem F16 {d : D} (m : Mild2 d) : m__law_is_falling [.val d] = .ok (.val (.bl (isFall d))) [.val d] := f_law_is_falling F15 F12 m
theorem F17 {b : Nat × List Int} {s : Int} (hd : Dealt b s) {rs : List (Int × Int)} {e : Int} (ok : RowOk rs e) : (m__law_near [.deal true b s, .val (rowD rs e)]).wp (Drw2 b (rowD rs e) Mild2) fun _ _ => False := w_near rfl F11 hd ok
theorem F18 {b : Nat × List Int} {s : Int} (hd : Dealt b s) {rs : List (Int × Int)} {e : Int} (ok : RowOk rs e) : (m__law_count [.deal true b s, .val (rowD rs e)]).wp (Drw2 b (rowD rs e) IsNat) fun _ _ => False := w_count rfl F11 hd ok
theorem h_cons {r : Fs} (cs ds : List Nat) (i : Option Nat) (b : Ss) (hs : Hd) (k : Nat) (d : D) (env : Env) : denH r (.cons cs ds i b hs) k d env = if cs.contains k then (match hear i k d env with
      | some e1 => (match denSs r b e1 with
        | .nx e2 => if noExs (forget i e2) then .nx (forget i e2) else .stuck
        | .rt m e2 => if noExs (forget i e2) then .rt m (forget i e2) else .stuck
        | .bk e2 => if noExs (forget i e2) then .bk (forget i e2) else .stuck
        | .ct e2 => if noExs (forget i e2) then .ct (forget i e2) else .stuck
        | _ => .stuck)
      | none => .stuck) else if ds.contains k then denH r hs k d env else .stuck := by first | (rw [denH]; done) | (rw [denH]; rfl)
theorem refused0 {r : Fs} {d : D} (x8 : r 8 [.val d, .val (.int 3)] = .exc 4 (.int 0)) : denF r 1 2 (.cons (.try_ (.cons (.expr (.call 8 (.cons (.frz 0) (.cons (.cst (.int 3)) .nil)))) .nil) (.cons [4] [] (some 1) (.cons (.ret (.exAt 1)) .nil) .nil)) (.cons (.ret (.cst .non)) .nil)) [.val d] = .ok (.val (.int 0)) [.val d] := by
  refine fn_is (ds := [d]) rfl ?_
  simp only [List.map_cons, List.map_nil, List.cons_append, List.nil_append, List.replicate_succ, List.replicate_zero]
  have e1 : denSs r (.cons (.expr (.call 8 (.cons (.frz 0) (.cons (.cst (.int 3)) .nil)))) .nil) [some (.val d), none] = .exc 4 (.int 0) [some (.val d), none] := by
    simp only [ss_cons, s_expr, q_call, es_cons, es_nil, q_frz, q_cst, slot_z, b_ok, call2x x8, o_exc]
  have e2 : denSs r (.cons (.ret (.exAt 1)) .nil) [some (.val d), some (.ex 4 (.int 0))] = .rt (.val (.int 0)) [some (.val d), some (.ex 4 (.int 0))] := by
    simp only [ss_cons, s_ret, q_exAt, slot_1, o_ok, gv_val]
  have e3 : hear (some 1) 4 (.int 0) [some (.val d), none] = some [some (.val d), some (.ex 4 (.int 0))] := rfl
  have e4 : noExs (forget (some 1) [some (.val d), some (.ex 4 (.int 0))]) = true := rfl
  rw [wo_cons, s_try, e1]
  dsimp only
  rw [h_cons, if_pos (show List.contains [4] 4 = true by decide), e3]
  dsimp only
  rw [e2]
  dsimp only
  rw [if_pos e4]
  exact ⟨rfl, Nat.succ_le_succ (Nat.zero_le _)⟩
theorem F19 {d : D} (m : Mild d) (h : isFall d = false) : m__law_refused [.val d] = .ok (.val (.int 0)) [.val d] := refused0 (X8 m h)
theorem list_end {α : Type} : ∀ l : List α, l = [] ∨ ∃ l' a, l = l' ++ [a]
  | [] => .inl rfl
  | a :: l => by
    rcases list_end l with rfl | ⟨l', b, rfl⟩
    · exact .inr ⟨[], a, rfl⟩
    · exact .inr ⟨a :: l', b, rfl⟩
theorem dealt_of (salt : Int) (hs : 0 ≤ salt ∧ salt < 1000) (c : Nat) (ns : List Int) (hl : ns.length ≤ 63) : ∃ b s, dealOf salt c ns = .deal false b s ∧ Dealt b s := by
  refine ⟨_, _, rfl, ?_, ?_⟩
  · unfold blendOf
    rcases list_end (cellsOf ns) with h | ⟨l, a, h⟩
    · rw [h]; simp only [List.foldl_nil]; omega
    · rw [h, List.foldl_append]
      simp only [List.foldl_cons, List.foldl_nil]
      exact ⟨Int.emod_nonneg _ (by decide), Int.emod_lt_of_pos _ (by decide)⟩
  · rw [List.length_reverse]
    refine Nat.le_trans (List.length_filter_le ..) ?_
    unfold cellsOf
    rw [List.length_map, List.length_take]
    omega
theorem b_split : b_law = .cons (.for_ (.nm 2) (.rg1 (.cst (.int 3))) B_law_1) B_law_1t := rfl
theorem show_bl (k : Bool) : (D.bl k).showOk = true := by cases k <;> rfl
theorem ord1 (d : D) : (order D.non [0] [d]).map asQ = [.mv (.val d)] := rfl
theorem ord10 (d e : D) : (order D.non [1, 0] [d, e]).map asQ = [.mv (.val e), .mv (.val d)] := rfl
theorem G6 {d : D} (m : Mild d) : fs_law 6 [.val d] = .ok (.val (.bl (isFall d))) [.val d] := F6 m
theorem G8 {rs : List (Int × Int)} {e n : Int} (m : Mild (rowD rs e)) (h : Falls rs e) : fs_law 8 [.val (rowD rs e), .val (.int n)] = .ok (.val (.bl (inF rs e 0 n))) [.val (rowD rs e), .val (.int n)] := F8 m h
theorem G12 {rs : List (Int × Int)} {e n : Int} (ok : RunsOk rs) (he : 0 ≤ e) : fs_law 12 [.val (rowD rs e), .val (.int n)] = .ok (.val (.bl (inF rs e 0 n))) [.val (rowD rs e), .val (.int n)] := F12 ok he
theorem G14 {b : Nat × List Int} {s : Int} (hd : Dealt b s) : (fs_law 14 [.deal true b s]).wp (Drw b IsRow) fun _ _ => False := F14 hd
theorem G16 {d : D} (m : Mild2 d) : fs_law 16 [.val d] = .ok (.val (.bl (isFall d))) [.val d] := F16 m
theorem G17 {b : Nat × List Int} {s : Int} (hd : Dealt b s) {rs : List (Int × Int)} {e : Int} (ok : RowOk rs e) : (fs_law 17 [.deal true b s, .val (rowD rs e)]).wp (Drw2 b (rowD rs e) Mild2) fun _ _ => False := F17 hd ok
theorem G18 {b : Nat × List Int} {s : Int} (hd : Dealt b s) {rs : List (Int × Int)} {e : Int} (ok : RowOk rs e) : (fs_law 18 [.deal true b s, .val (rowD rs e)]).wp (Drw2 b (rowD rs e) IsNat) fun _ _ => False := F18 hd ok
theorem G19 {d : D} (m : Mild d) (h : isFall d = false) : fs_law 19 [.val d] = .ok (.val (.int 0)) [.val d] := F19 m h
theorem step2 {b : Nat × List Int} {s : Int} (hd : Dealt b s) {rs : List (Int × Int)} {e : Int} (ok : RowOk rs e) {t2 t4 : D} {l5 l6 l7 : Option M} (hl : (l5 = none ∧ l6 = none ∧ l7 = none) ∨ ∃ t5 t6 t7, l5 = some (.val t5) ∧ l6 = some (.val t6) ∧ l7 = some (.val t7)) {bk : Env → Prop} :
    (denSs fs_law B_law_2 [none, some (.deal false b s), some (.val t2), some (.val (rowD rs e)), some (.val t4), l5, l6, l7, none, none, none, none]).wp
      ⟨fun env => ∃ b s t5 t6 t7, Dealt b s ∧ env = [none, some (.deal false b s), some (.val t2), some (.val (rowD rs e)), some (.val t4), some (.val t5), some (.val t6), some (.val t7), none, none, none, none], fun _ _ => False, fun _ => False, fun _ => False, fun _ _ _ => False⟩ := by
  have m := ok.mild
  have fa := ok.falls
  have g8 := fun n : Int => G8 (n := n) m fa
  have g12 := fun n : Int => G12 (n := n) ok.rok fa.end0
  unfold B_law_2
  rcases hl with ⟨rfl, rfl, rfl⟩ | ⟨t5, t6, t7, rfl, rfl, rfl⟩ <;>
  · simp_arith! [back, wipe, List.getElem?_cons_succ, List.getElem?_cons_zero, Option.join_none, Option.join_some, List.cons_append, List.nil_append, if_pos (show 0 ≤ maxLen by decide), if_pos (show 1 ≤ maxLen by decide), if_pos (show 2 ≤ maxLen by decide), if_pos (show 3 ≤ maxLen by decide)]
    refine call_dv (i := 1) (Po := IsNat) rfl (G18 hd ok) ?_
    rintro d b1 s1 _ h1 ⟨n, rfl, n0⟩
    simp_arith! [back, wipe, List.getElem?_cons_succ, List.getElem?_cons_zero, Option.join_none, Option.join_some, List.cons_append, List.nil_append, if_pos (show 0 ≤ maxLen by decide), if_pos (show 1 ≤ maxLen by decide), if_pos (show 2 ≤ maxLen by decide), if_pos (show 3 ≤ maxLen by decide), call2 (g8 n), call2 (g12 n), show_bl, D.same_refl, ord10]
    refine call_dv (i := 1) (Po := Mild2) rfl (G17 h1 ok) ?_
    rintro v b2 s2 _ h2 m2
    simp_arith! [back, wipe, List.getElem?_cons_succ, List.getElem?_cons_zero, Option.join_none, Option.join_some, List.cons_append, List.nil_append, if_pos (show 0 ≤ maxLen by decide), if_pos (show 1 ≤ maxLen by decide), if_pos (show 2 ≤ maxLen by decide), if_pos (show 3 ≤ maxLen by decide), call1 (G16 m2), call1 (G6 m2.m), show_bl, D.same_refl]
    cases hv : isFall v with
    | true =>
      obtain ⟨rs', e', rfl, fa'⟩ := isFall_iff.mp hv
      have g8' := G8 (n := n) m2.m fa'
      have g12' := G12 (n := n) (m2.m.ok fa'.pos) fa'.end0
      simp_arith! [back, wipe, List.getElem?_cons_succ, List.getElem?_cons_zero, Option.join_none, Option.join_some, List.cons_append, List.nil_append, if_pos (show 0 ≤ maxLen by decide), if_pos (show 1 ≤ maxLen by decide), if_pos (show 2 ≤ maxLen by decide), if_pos (show 3 ≤ maxLen by decide), hv, Bool.not_true, Bool.true_eq_false, call2 g8', call2 g12', show_bl, D.same_refl]
      exact ⟨b2, s2, _, _, _, h2, rfl⟩
    | false =>
      simp_arith! [back, wipe, List.getElem?_cons_succ, List.getElem?_cons_zero, Option.join_none, Option.join_some, List.cons_append, List.nil_append, if_pos (show 0 ≤ maxLen by decide), if_pos (show 1 ≤ maxLen by decide), if_pos (show 2 ≤ maxLen by decide), if_pos (show 3 ≤ maxLen by decide), hv, Bool.not_false, Bool.true_eq_false, call1 (G19 m2.m hv)]
      exact ⟨b2, s2, _, _, _, h2, rfl⟩
theorem step1 {b : Nat × List Int} {s : Int} (hd : Dealt b s) {t2 : D} {l3 l4 l5 l6 l7 : Option M} (hl : (l3 = none ∧ l4 = none ∧ l5 = none ∧ l6 = none ∧ l7 = none) ∨ ∃ t3 t4 t5 t6 t7, l3 = some (.val t3) ∧ l4 = some (.val t4) ∧ l5 = some (.val t5) ∧ l6 = some (.val t6) ∧ l7 = some (.val t7)) :
    (denSs fs_law B_law_1 [none, some (.deal false b s), some (.val t2), l3, l4, l5, l6, l7, none, none, none, none]).wp
      ⟨fun env => ∃ b s rs e t4 t5 t6 t7, Dealt b s ∧ RowOk rs e ∧ env = [none, some (.deal false b s), some (.val t2), some (.val (rowD rs e)), some (.val t4), some (.val t5), some (.val t6), some (.val t7), none, none, none, none], fun _ _ => False, fun _ => False, fun _ => False, fun _ _ _ => False⟩ := by
  unfold B_law_1
  have loop : ∀ {b : Nat × List Int} {s : Int} {rs : List (Int × Int)} {e : Int} {l4 l5 l6 l7 : Option M}, Dealt b s → RowOk rs e → ((l4 = none ∧ l5 = none ∧ l6 = none ∧ l7 = none) ∨ ∃ t4 t5 t6 t7, l4 = some (.val t4) ∧ l5 = some (.val t5) ∧ l6 = some (.val t6) ∧ l7 = some (.val t7)) →
      (forF (.nm 4) (.vs (rangeC 0 1 (Int.toNat 4))) (denSs fs_law B_law_2) ((rangeC 0 1 (Int.toNat 4)).length + 1) 0 [none, some (.deal false b s), some (.val t2), some (.val (rowD rs e)), l4, l5, l6, l7, none, none, none, none]).wp
      ⟨fun env => ∃ b s rs e t4 t5 t6 t7, Dealt b s ∧ RowOk rs e ∧ env = [none, some (.deal false b s), some (.val t2), some (.val (rowD rs e)), some (.val t4), some (.val t5), some (.val t6), some (.val t7), none, none, none, none], fun _ _ => False, fun _ => False, fun _ => False, fun _ _ _ => False⟩ := by
    intro b s rs e l4 l5 l6 l7 hd ok hl
    refine for_wp (w := .vs (rangeC 0 1 (Int.toNat 4))) (ds := rangeC 0 1 (Int.toNat 4)) (fun k env => ∃ b s, Dealt b s ∧ ((k = 0 ∧ env = [none, some (.deal false b s), some (.val t2), some (.val (rowD rs e)), l4, l5, l6, l7, none, none, none, none]) ∨
      ∃ t4 t5 t6 t7, env = [none, some (.deal false b s), some (.val t2), some (.val (rowD rs e)), some (.val t4), some (.val t5), some (.val t6), some (.val t7), none, none, none, none])) (fun k e _ => rfl) ?_ ?_ ((rangeC 0 1 (Int.toNat 4)).length + 1) 0 _ ⟨b, s, hd, .inl ⟨rfl, rfl⟩⟩ (Nat.zero_le _) (by omega)
    · rintro k env x ⟨b, s, hd, hc⟩ hk
      have h5 : ∃ l5 l6 l7, (T.nm 4).put (some (.val x)) env = some [none, some (.deal false b s), some (.val t2), some (.val (rowD rs e)), some (.val x), l5, l6, l7, none, none, none, none] ∧ ((l5 = none ∧ l6 = none ∧ l7 = none) ∨ ∃ t5 t6 t7, l5 = some (.val t5) ∧ l6 = some (.val t6) ∧ l7 = some (.val t7)) := by
        rcases hc with ⟨_, rfl⟩ | ⟨t4, t5, t6, t7, rfl⟩
        · rcases hl with ⟨rfl, rfl, rfl, rfl⟩ | ⟨_, _, _, _, rfl, rfl, rfl, rfl⟩
          · exact ⟨_, _, _, rfl, .inl ⟨rfl, rfl, rfl⟩⟩
          · exact ⟨_, _, _, rfl, .inr ⟨_, _, _, rfl, rfl, rfl⟩⟩
        · exact ⟨_, _, _, rfl, .inr ⟨_, _, _, rfl, rfl, rfl⟩⟩
      obtain ⟨l5, l6, l7, e1, e2⟩ := h5
      refine ⟨_, e1, wo_mono (step2 hd ok e2 (bk := fun _ => False)) ?_ (fun _ _ h => h.elim) (fun _ h => h.elim) (fun _ h => h.elim) (fun _ _ _ h => h.elim)⟩
      rintro env' ⟨b', s', t5, t6, t7, h1, rfl⟩
      exact ⟨b', s', h1, .inr ⟨_, _, _, _, rfl⟩⟩
    · rintro env ⟨b, s, hd, hc⟩
      rcases hc with ⟨h0, _⟩ | ⟨t4, t5, t6, t7, rfl⟩
      · exact absurd h0 (by decide)
      · exact ⟨b, s, rs, e, _, _, _, _, hd, ok, rfl⟩
  rcases hl with ⟨rfl, rfl, rfl, rfl, rfl⟩ | ⟨t3, t4, t5, t6, t7, rfl, rfl, rfl, rfl, rfl⟩
  · simp_arith! [back, wipe, List.getElem?_cons_succ, List.getElem?_cons_zero, Option.join_none, Option.join_some, List.cons_append, List.nil_append, if_pos (show 0 ≤ maxLen by decide), if_pos (show 1 ≤ maxLen by decide), if_pos (show 2 ≤ maxLen by decide), if_pos (show 3 ≤ maxLen by decide)]
    refine call_d (i := 1) (Po := IsRow) rfl (G14 hd) ?_
    rintro d b1 s1 _ h1 ⟨rs, e, rfl, ok⟩
    have m := ok.mild
    have m2 : Mild2 (rowD rs e) := mild_two (by rw [List.length_map]; have := ok.few; omega) ok.like rfl
    have gf : isFall (rowD rs e) = true := isFall_iff.mpr ⟨rs, e, rfl, ok.falls⟩
    simp_arith! [back, wipe, List.getElem?_cons_succ, List.getElem?_cons_zero, Option.join_none, Option.join_some, List.cons_append, List.nil_append, if_pos (show 0 ≤ maxLen by decide), if_pos (show 1 ≤ maxLen by decide), if_pos (show 2 ≤ maxLen by decide), if_pos (show 3 ≤ maxLen by decide), call1 (G6 m), ord1, call1 (G16 m2), gf, show (true != true) = false from rfl, Bool.true_eq_false, Bool.not_true]
    simp_arith! [back, wipe, List.getElem?_cons_succ, List.getElem?_cons_zero, Option.join_none, Option.join_some, List.cons_append, List.nil_append, if_pos (show 0 ≤ maxLen by decide), if_pos (show 1 ≤ maxLen by decide), if_pos (show 2 ≤ maxLen by decide), if_pos (show 3 ≤ maxLen by decide), s_for, if_pos (show -(2 ^ 60) ≤ (4 : Int) ∧ (4 : Int) ≤ 2 ^ 60 by decide)]
    refine wo_mono (loop h1 ok (.inl ⟨rfl, rfl, rfl, rfl⟩)) ?_ (fun _ _ h => h.elim) (fun _ h => h.elim) (fun _ h => h.elim) (fun _ _ _ h => h.elim)
    intro env h
    unfold B_law_2t
    simp_arith! [back, wipe, List.getElem?_cons_succ, List.getElem?_cons_zero, Option.join_none, Option.join_some, List.cons_append, List.nil_append, if_pos (show 0 ≤ maxLen by decide), if_pos (show 1 ≤ maxLen by decide), if_pos (show 2 ≤ maxLen by decide), if_pos (show 3 ≤ maxLen by decide)]
    exact h
  · simp_arith! [back, wipe, List.getElem?_cons_succ, List.getElem?_cons_zero, Option.join_none, Option.join_some, List.cons_append, List.nil_append, if_pos (show 0 ≤ maxLen by decide), if_pos (show 1 ≤ maxLen by decide), if_pos (show 2 ≤ maxLen by decide), if_pos (show 3 ≤ maxLen by decide)]
    refine call_d (i := 1) (Po := IsRow) rfl (G14 hd) ?_
    rintro d b1 s1 _ h1 ⟨rs, e, rfl, ok⟩
    have m := ok.mild
    have m2 : Mild2 (rowD rs e) := mild_two (by rw [List.length_map]; have := ok.few; omega) ok.like rfl
    have gf : isFall (rowD rs e) = true := isFall_iff.mpr ⟨rs, e, rfl, ok.falls⟩
    simp_arith! [back, wipe, List.getElem?_cons_succ, List.getElem?_cons_zero, Option.join_none, Option.join_some, List.cons_append, List.nil_append, if_pos (show 0 ≤ maxLen by decide), if_pos (show 1 ≤ maxLen by decide), if_pos (show 2 ≤ maxLen by decide), if_pos (show 3 ≤ maxLen by decide), call1 (G6 m), ord1, call1 (G16 m2), gf, show (true != true) = false from rfl, Bool.true_eq_false, Bool.not_true]
    simp_arith! [back, wipe, List.getElem?_cons_succ, List.getElem?_cons_zero, Option.join_none, Option.join_some, List.cons_append, List.nil_append, if_pos (show 0 ≤ maxLen by decide), if_pos (show 1 ≤ maxLen by decide), if_pos (show 2 ≤ maxLen by decide), if_pos (show 3 ≤ maxLen by decide), s_for, if_pos (show -(2 ^ 60) ≤ (4 : Int) ∧ (4 : Int) ≤ 2 ^ 60 by decide)]
    refine wo_mono (loop h1 ok (.inr ⟨_, _, _, _, rfl, rfl, rfl, rfl⟩)) ?_ (fun _ _ h => h.elim) (fun _ h => h.elim) (fun _ h => h.elim) (fun _ _ _ h => h.elim)
    intro env h
    unfold B_law_2t
    simp_arith! [back, wipe, List.getElem?_cons_succ, List.getElem?_cons_zero, Option.join_none, Option.join_some, List.cons_append, List.nil_append, if_pos (show 0 ≤ maxLen by decide), if_pos (show 1 ≤ maxLen by decide), if_pos (show 2 ≤ maxLen by decide), if_pos (show 3 ≤ maxLen by decide)]
    exact h

/-! ### the set is closed -/
def upto : List Int := (List.range 25).map fun (k : Nat) => (k : Int)
theorem upto_rng : rangeC 0 1 (Int.toNat 25) = upto.map D.int := by
  show (List.range 25).map (fun (k : Nat) => D.int (0 + (k : Int) * 1)) = ((List.range 25).map fun (k : Nat) => (k : Int)).map D.int
  rw [List.map_map]
  refine List.map_congr_left fun k _ => ?_
  show D.int (0 + (k : Int) * 1) = D.int k
  rw [Int.mul_one, Int.zero_add]
theorem upto_mem {x : Int} : x ∈ upto ↔ 0 ≤ x ∧ x < 25 := by
  unfold upto
  rw [List.mem_map]
  constructor
  · rintro ⟨k, hk, rfl⟩
    have := List.mem_range.mp hk
    omega
  · rintro ⟨h0, h1⟩
    exact ⟨x.toNat, List.mem_range.mpr (by omega), by omega⟩
def told (rs : List (Int × Int)) (e : Int) : List Int := upto.filter fun n => inF rs e 0 n
theorem told_mem {rs : List (Int × Int)} {e x : Int} : x ∈ told rs e ↔ Has rs e x ∧ x < 25 := by
  unfold told Has
  rw [List.mem_filter, upto_mem]
  constructor
  · rintro ⟨⟨a, b⟩, c⟩; exact ⟨⟨a, c⟩, b⟩
  · rintro ⟨⟨a, c⟩, b⟩; exact ⟨⟨a, b⟩, c⟩
theorem told_head {rs : List (Int × Int)} {e : Int} (h : Falls rs e) : ∃ l, told rs e = 0 :: l := by
  have h0 := (has_zero h.pos h.end0).2
  unfold told
  have : upto = 0 :: upto.tail := by decide +kernel
  rw [this, List.filter_cons, h0, if_pos rfl]
  exact ⟨_, rfl⟩
theorem told_len (rs : List (Int × Int)) (e : Int) : (told rs e).length ≤ 25 := Nat.le_trans (List.length_filter_le ..) (by decide +kernel)
theorem eqvs_refl : ∀ l : List Int, D.eqvs (l.map .int) (l.map .int) = true
  | [] => rfl
  | a :: l => by
    simp only [List.map_cons, D.eqvs, D.eqv, eqvs_refl l, Bool.and_true]
    exact beq_self_eq_true a
theorem ne_same (l : List Int) : evalOp .ne [.lst (l.map .int), .lst (l.map .int)] = some (.val (.bl false)) := by
  rw [v_ne]
  have : D.flat 60 (.lst (l.map .int)) = true := flats_int 59 l
  rw [this]
  show some (Z.val (.bl (!D.eqvs (l.map .int) (l.map .int)))) = _
  rw [eqvs_refl]; rfl
theorem nin_mem {l : List Int} {x : Int} (h : x ∈ l) : evalOp .nin [.int x, .lst (l.map .int)] = some (.val (.bl false)) := by
  show (if D.leaf (.int x) && (l.map D.int).all D.leaf then some (Z.val (.bl (!(l.map D.int).any fun y => y.eqv (.int x)))) else none) = _
  have h1 : (l.map D.int).all D.leaf = true := by rw [List.all_eq_true]; intro y hy; obtain ⟨i, _, rfl⟩ := List.mem_map.mp hy; rfl
  have h2 : (l.map D.int).any (fun y => y.eqv (.int x)) = true := by
    rw [List.any_eq_true]
    exact ⟨.int x, List.mem_map.mpr ⟨x, h, rfl⟩, beq_self_eq_true x⟩
  rw [h1, h2]; rfl
theorem step1t {b : Nat × List Int} {s : Int} {rs : List (Int × Int)} {e : Int} (ok : RowOk rs e) {t2 t4 t5 t6 t7 : D} :
    (denSs fs_law B_law_1t [none, some (.deal false b s), some (.val t2), some (.val (rowD rs e)), some (.val t4), some (.val t5), some (.val t6), some (.val t7), none, none, none, none]).wp
      ⟨fun _ => False, fun m _ => m = .val (.bl true), fun _ => False, fun _ => False, fun _ _ _ => False⟩ := by
  have m := ok.mild
  have fa := ok.falls
  have g8 := fun n : Int => G8 (n := n) m fa
  have g12 := fun n : Int => G12 (n := n) ok.rok fa.end0
  have q (c : E) (l8 : Option M) (hc : ∀ i : Int, denT fs_law c [none, some (.deal false b s), some (.val t2), some (.val (rowD rs e)), some (.val t4), some (.val (.int i)), some (.val t6), some (.val t7), l8, none, none, none] = .ok (inF rs e 0 i, [none, some (.deal false b s), some (.val t2), some (.val (rowD rs e)), some (.val t4), some (.val (.int i)), some (.val t6), some (.val t7), l8, none, none, none])) :
      denG fs_law (.comp (.nm 5) [5] (.rg1 (.cst (.int 25))) (.one c) (.frz 5)) false [none, some (.deal false b s), some (.val t2), some (.val (rowD rs e)), some (.val t4), some (.val t5), some (.val t6), some (.val t7), l8, none, none, none] =
        .ok (.mv (.own false ((told rs e).map .int)), [none, some (.deal false b s), some (.val t2), some (.val (rowD rs e)), some (.val t4), some (.val t5), some (.val t6), some (.val t7), l8, none, none, none]) := by
    have hq := q_fm (r := fs_law) (t := .nm 5) (own := [5]) (it := .rg1 (.cst (.int 25))) (c := .one c) (e := .frz 5) (env := [none, some (.deal false b s), some (.val t2), some (.val (rowD rs e)), some (.val t4), some (.val t5), some (.val t6), some (.val t7), l8, none, none, none])
      (env1 := [none, some (.deal false b s), some (.val t2), some (.val (rowD rs e)), some (.val t4), some (.val t5), some (.val t6), some (.val t7), l8, none, none, none]) (ds := upto.map .int)
      (fun x => match x with | .int i => inF rs e 0 i | _ => false) (fun x => x) (fun x => [none, some (.deal false b s), some (.val t2), some (.val (rowD rs e)), some (.val t4), some (.val x), some (.val t6), some (.val t7), l8, none, none, none]) (by rw [← upto_rng]; simp! [if_pos (show -(2 ^ 60) ≤ (25 : Int) ∧ (25 : Int) ≤ 2 ^ 60 by decide)]) rfl (by rw [List.length_map]; decide +kernel) (fun d _ => rfl) (fun d hd => by
        obtain ⟨i, _, rfl⟩ := List.mem_map.mp hd
        rw [c_one, hc i]; rfl) (fun d hd _ => ⟨_, rfl, rfl⟩) (fun d _ => rfl)
    rw [filt_map (fun n => inF rs e 0 n) _ (fun x => x) _ (fun _ => rfl) (fun _ => rfl), List.map_id'] at hq
    exact hq
  have q1 := q (.call 12 (.cons (.frz 3) (.cons (.frz 5) .nil))) none (fun i => by simp! [call2 (g12 i)])
  have q2 := q (.call 8 (.cons (.frz 3) (.cons (.frz 5) .nil))) (some (.own false ((told rs e).map .int))) (fun i => by simp! [call2 (g8 i)])
  unfold B_law_1t
  simp_arith! [back, wipe, List.getElem?_cons_succ, List.getElem?_cons_zero, Option.join_none, Option.join_some, List.cons_append, List.nil_append, if_pos (show 0 ≤ maxLen by decide), if_pos (show 1 ≤ maxLen by decide), if_pos (show 2 ≤ maxLen by decide), if_pos (show 3 ≤ maxLen by decide), q1, q2, ne_same]
  simp_arith! [back, wipe, List.getElem?_cons_succ, List.getElem?_cons_zero, Option.join_none, Option.join_some, List.cons_append, List.nil_append, if_pos (show 0 ≤ maxLen by decide), if_pos (show 1 ≤ maxLen by decide), if_pos (show 2 ≤ maxLen by decide), if_pos (show 3 ≤ maxLen by decide), s_for]
  refine for_wp (w := .vs ((told rs e).map .int)) (ds := (told rs e).map .int) (fun k env => ∃ l9 l10, ((l9 = none ∧ l10 = none) ∨ ∃ a b, l9 = some (.val a) ∧ l10 = some (.val b)) ∧ env = [none, some (.deal false b s), some (.val t2), some (.val (rowD rs e)), some (.val t4), some (.val t5), some (.val t6), some (.val t7), some (.val (.lst ((told rs e).map .int))), l9, l10, none])
    (fun k e _ => rfl) ?_ ?_ (((told rs e).map D.int).length + 1) 0 _ ⟨none, none, .inl ⟨rfl, rfl⟩, rfl⟩ (Nat.zero_le _) (by omega)
  · rintro k env dx ⟨l9, l10, h9, rfl⟩ hk
    obtain ⟨x, hx, rfl⟩ := List.mem_map.mp (List.mem_of_getElem? hk)
    refine ⟨[none, some (.deal false b s), some (.val t2), some (.val (rowD rs e)), some (.val t4), some (.val t5), some (.val t6), some (.val t7), some (.val (.lst ((told rs e).map .int))), some (.val (.int x)), l10, none], by rcases h9 with ⟨rfl, rfl⟩ | ⟨_, _, rfl, rfl⟩ <;> rfl, ?_⟩
    have h10 : Vl l10 := by rcases h9 with ⟨_, rfl⟩ | ⟨_, _, _, rfl⟩; exact .inl rfl; exact .inr ⟨_, rfl⟩
    clear h9
    unfold B_law_3
    simp_arith! [back, wipe, List.getElem?_cons_succ, List.getElem?_cons_zero, Option.join_none, Option.join_some, List.cons_append, List.nil_append, if_pos (show 0 ≤ maxLen by decide), if_pos (show 1 ≤ maxLen by decide), if_pos (show 2 ≤ maxLen by decide), if_pos (show 3 ≤ maxLen by decide), s_for]
    refine for_wp (w := .vs ((told rs e).map .int)) (ds := (told rs e).map .int) (fun k env => ∃ l10, Vl l10 ∧ (k ≠ 0 → l10 ≠ none) ∧ env = [none, some (.deal false b s), some (.val t2), some (.val (rowD rs e)), some (.val t4), some (.val t5), some (.val t6), some (.val t7), some (.val (.lst ((told rs e).map .int))), some (.val (.int x)), l10, none])
      (fun k e _ => rfl) ?_ ?_ (((told rs e).map D.int).length + 1) 0 _ ⟨l10, h10, fun h => (h rfl).elim, rfl⟩ (Nat.zero_le _) (by omega)
    · rintro k env dy ⟨l10, h10, _, rfl⟩ hk
      obtain ⟨y, hy, rfl⟩ := List.mem_map.mp (List.mem_of_getElem? hk)
      refine ⟨[none, some (.deal false b s), some (.val t2), some (.val (rowD rs e)), some (.val t4), some (.val t5), some (.val t6), some (.val t7), some (.val (.lst ((told rs e).map .int))), some (.val (.int x)), some (.val (.int y)), none], by rcases h10 with rfl | ⟨_, rfl⟩ <;> rfl, ?_⟩
      have hq := q_fm (r := fs_law) (t := .nm 11) (own := [11]) (it := .seq (.var 8)) (c := .one (.and (.op .le (.cons (.var 11) (.cons (.op .min2 (.cons (.var 9) (.cons (.var 10) .nil))) .nil))) (.and (.op .lt (.cons (.op .sub (.cons (.op .add (.cons (.var 9) (.cons (.var 10) .nil))) (.cons (.var 11) .nil))) (.cons (.cst (.int 25)) .nil))) (.op .nin (.cons (.op .sub (.cons (.op .add (.cons (.var 9) (.cons (.var 10) .nil))) (.cons (.var 11) .nil))) (.cons (.var 8) .nil)))))) (e := .frz 11)
        (env := [none, some (.deal false b s), some (.val t2), some (.val (rowD rs e)), some (.val t4), some (.val t5), some (.val t6), some (.val t7), some (.val (.lst ((told rs e).map .int))), some (.val (.int x)), some (.val (.int y)), none])
        (env1 := [none, some (.deal false b s), some (.val t2), some (.val (rowD rs e)), some (.val t4), some (.val t5), some (.val t6), some (.val t7), some (.val (.lst ((told rs e).map .int))), some (.val (.int x)), some (.val (.int y)), none]) (ds := (told rs e).map .int)
        (fun _ => false) (fun x => x) (fun d => [none, some (.deal false b s), some (.val t2), some (.val (rowD rs e)), some (.val t4), some (.val t5), some (.val t6), some (.val t7), some (.val (.lst ((told rs e).map .int))), some (.val (.int x)), some (.val (.int y)), some (.val d)]) (by simp!) rfl (by rw [List.length_map]; have := told_len rs e; unfold maxLen; omega) (fun d _ => rfl) (fun d hd => by
          obtain ⟨z, hz, rfl⟩ := List.mem_map.mp hd
          by_cases c1 : z ≤ (if y < x then y else x)
          · by_cases c2 : x + y - z < 25
            · have hcl : x + y - z ∈ told rs e := by
                rw [told_mem] at hx hy hz ⊢
                refine ⟨fa.closed hx.1 hy.1 hz.1 ?_ ?_, c2⟩ <;> (split at c1 <;> omega)
              simp! [v_min2, decide_eq_true c1, decide_eq_true c2, nin_mem hcl]
            · simp! [v_min2, decide_eq_true c1, decide_eq_false c2]
          · simp! [v_min2, decide_eq_false c1]) (fun d hd h => by cases h) (fun d _ => rfl)
      rw [List.filter_eq_nil_iff.mpr (fun _ _ => by simp)] at hq
      unfold B_law_4
      have nn : evalOp .ne [.lst (List.map (fun x : D => x) []), .lst []] = some (.val (.bl false)) := rfl
      simp_arith! [back, wipe, List.getElem?_cons_succ, List.getElem?_cons_zero, Option.join_none, Option.join_some, List.cons_append, List.nil_append, if_pos (show 0 ≤ maxLen by decide), if_pos (show 1 ≤ maxLen by decide), if_pos (show 2 ≤ maxLen by decide), if_pos (show 3 ≤ maxLen by decide), hq, nn]
      exact ⟨_, .inr ⟨_, rfl⟩, fun _ => (by simp), rfl⟩
    · rintro env ⟨l10, h10, h11, rfl⟩
      unfold B_law_4t
      simp_arith! [back, wipe, List.getElem?_cons_succ, List.getElem?_cons_zero, Option.join_none, Option.join_some, List.cons_append, List.nil_append, if_pos (show 0 ≤ maxLen by decide), if_pos (show 1 ≤ maxLen by decide), if_pos (show 2 ≤ maxLen by decide), if_pos (show 3 ≤ maxLen by decide)]
      obtain ⟨l, hl⟩ := told_head fa
      rcases h10 with rfl | ⟨v, rfl⟩
      · exact absurd rfl (h11 (by rw [List.length_map, hl]; simp))
      · exact ⟨_, _, .inr ⟨_, _, rfl, rfl⟩, rfl⟩
  · rintro env ⟨l9, l10, h9, rfl⟩
    obtain ⟨l, hl⟩ := told_head fa
    unfold B_law_3t
    simp_arith! [back, wipe, List.getElem?_cons_succ, List.getElem?_cons_zero, Option.join_none, Option.join_some, List.cons_append, List.nil_append, if_pos (show 0 ≤ maxLen by decide), if_pos (show 1 ≤ maxLen by decide), if_pos (show 2 ≤ maxLen by decide), if_pos (show 3 ≤ maxLen by decide), hl, List.map_cons, ixL0]
theorem math : MathL := by
  intro c ns hl hb
  obtain ⟨b, s, e0, hd⟩ := dealt_of 5 (by decide) c ns hl
  rw [e0]
  suffices h : (denSs fs_law b_law (none :: some (.deal false b s) :: List.replicate 10 none)).wp ⟨fun _ => False, fun m _ => m = .val (.bl true), fun _ => False, fun _ => False, fun _ _ _ => False⟩ by
    cases e : denSs fs_law b_law (none :: some (.deal false b s) :: List.replicate 10 none) with
    | rt m e1 => rw [e] at h; exact ⟨e1, by rw [show m = .val (.bl true) from h]⟩
    | nx e1 => rw [e] at h; exact h.elim
    | bk e1 => rw [e] at h; exact h.elim
    | ct e1 => rw [e] at h; exact h.elim
    | exc c d e1 => rw [e] at h; exact h.elim
    | stuck => rw [e] at h; exact h.elim
  rw [b_split]
  simp only [List.replicate_succ, List.replicate_zero]
  simp_arith! [back, wipe, List.getElem?_cons_succ, List.getElem?_cons_zero, Option.join_none, Option.join_some, List.cons_append, List.nil_append, if_pos (show 0 ≤ maxLen by decide), if_pos (show 1 ≤ maxLen by decide), if_pos (show 2 ≤ maxLen by decide), if_pos (show 3 ≤ maxLen by decide), s_for, if_pos (show -(2 ^ 60) ≤ (3 : Int) ∧ (3 : Int) ≤ 2 ^ 60 by decide)]
  refine for_wp (w := .vs (rangeC 0 1 (Int.toNat 3))) (ds := rangeC 0 1 (Int.toNat 3)) (fun k env => ∃ b s, Dealt b s ∧ ((k = 0 ∧ env = [none, some (.deal false b s), none, none, none, none, none, none, none, none, none, none]) ∨
    ∃ t2 rs e t4 t5 t6 t7, RowOk rs e ∧ env = [none, some (.deal false b s), some (.val t2), some (.val (rowD rs e)), some (.val t4), some (.val t5), some (.val t6), some (.val t7), none, none, none, none])) (fun k e _ => rfl) ?_ ?_ ((rangeC 0 1 (Int.toNat 3)).length + 1) 0 _ ⟨b, s, hd, .inl ⟨rfl, rfl⟩⟩ (Nat.zero_le _) (by omega)
  · rintro k env x ⟨b, s, hd, hc⟩ hk
    obtain ⟨l3, l4, l5, l6, l7, e1, hl⟩ : ∃ l3 l4 l5 l6 l7, (T.nm 2).put (some (.val x)) env = some [none, some (.deal false b s), some (.val x), l3, l4, l5, l6, l7, none, none, none, none] ∧ ((l3 = none ∧ l4 = none ∧ l5 = none ∧ l6 = none ∧ l7 = none) ∨ ∃ t3 t4 t5 t6 t7, l3 = some (.val t3) ∧ l4 = some (.val t4) ∧ l5 = some (.val t5) ∧ l6 = some (.val t6) ∧ l7 = some (.val t7)) := by
      rcases hc with ⟨_, rfl⟩ | ⟨t2, rs, e, t4, t5, t6, t7, _, rfl⟩
      · exact ⟨_, _, _, _, _, rfl, .inl ⟨rfl, rfl, rfl, rfl, rfl⟩⟩
      · exact ⟨_, _, _, _, _, rfl, .inr ⟨_, _, _, _, _, rfl, rfl, rfl, rfl, rfl⟩⟩
    refine ⟨_, e1, wo_mono (step1 hd hl) ?_ (fun _ _ h => h.elim) (fun _ h => h.elim) (fun _ h => h.elim) (fun _ _ _ h => h.elim)⟩
    rintro env' ⟨b', s', rs, e, t4, t5, t6, t7, h1, h2, rfl⟩
    exact ⟨b', s', h1, .inr ⟨_, rs, e, _, _, _, _, h2, rfl⟩⟩
  · rintro env ⟨b, s, hd, hc⟩
    rcases hc with ⟨h0, _⟩ | ⟨t2, rs, e, t4, t5, t6, t7, ok, rfl⟩
    · exact absurd h0 (by decide)
    · exact step1t ok
end Rx.K05

/-! K05H -/
set_option linter.all false
set_option Elab.async false
set_option maxRecDepth 100000
set_option maxHeartbeats 4000000
namespace Rx.K05
open PySem PySem.Spec PyProof.Rows L2 Rx
local macro_rules
  | `(tactic| simp!) => `(tactic| simp only [slot_z, slot_1, slot_2, slot_3, slot_4, slot_5, slot_6, slot_7, slot_8, slot_9, slot_10, slot_11, slot_12, q_var, q_frz, q_cst, q_op, q_call, q_callK, q_tup, q_lst, q_ite, q_and, q_or, q_not, q_chain, q_pop, q_exAt, es_nil, es_cons, ks_nil, ks_cons, t_and, t_or, t_not, t_op, t_var, t_call, t_callK, t_chain, t_cst, c_yes, c_one, b_ok, b_exc, o_ok, o_exc, of_some, g_val, g_new, g_ref, gs_nil, gs_cons, k_val, k_new, tk_val, tk_new, tk_deal, gv_val, gv_new, gv_ref, m_val, m_new, p_nm, p_tp, p_tpp, putD_nil, putD_cons, putM_nil, putM_cons, put_def, free_def, ts_nil, ts_cons, t1_ok, t1_exc, tr_bl, tr_non, ss_nil, ss_cons, s_asg, s_par, s_aug, s_app, s_ext, s_pop, s_expr, s_doc, s_ret, s_retN, s_pass, s_brk, s_cnt, s_ite, s_raise, s_setix, s_ins, i_seq, i_rg1, i_rg2, i_enum, i_zip, i_rev, sq_lst, sq_tup, wl_vs, v_add, v_sub, v_neg, v_lt, v_le, v_gt, v_ge, v_isN, v_notN, v_isB, v_notB, v_rev, v_lenL, v_lenT, v_abs, v_int, v_listL, v_listT, v_tupleL, v_tupleT, v_max2, v_min2, v_isa, Option.bind_some, List.set_cons_zero, List.set_cons_succ, List.length_cons, List.length_nil, if_true, if_false, reduceIte, Bool.false_eq_true, decide_true, decide_false, isOwn])
  | `(tactic| simp! [$ls,*]) => `(tactic| simp only [slot_z, slot_1, slot_2, slot_3, slot_4, slot_5, slot_6, slot_7, slot_8, slot_9, slot_10, slot_11, slot_12, q_var, q_frz, q_cst, q_op, q_call, q_callK, q_tup, q_lst, q_ite, q_and, q_or, q_not, q_chain, q_pop, q_exAt, es_nil, es_cons, ks_nil, ks_cons, t_and, t_or, t_not, t_op, t_var, t_call, t_callK, t_chain, t_cst, c_yes, c_one, b_ok, b_exc, o_ok, o_exc, of_some, g_val, g_new, g_ref, gs_nil, gs_cons, k_val, k_new, tk_val, tk_new, tk_deal, gv_val, gv_new, gv_ref, m_val, m_new, p_nm, p_tp, p_tpp, putD_nil, putD_cons, putM_nil, putM_cons, put_def, free_def, ts_nil, ts_cons, t1_ok, t1_exc, tr_bl, tr_non, ss_nil, ss_cons, s_asg, s_par, s_aug, s_app, s_ext, s_pop, s_expr, s_doc, s_ret, s_retN, s_pass, s_brk, s_cnt, s_ite, s_raise, s_setix, s_ins, i_seq, i_rg1, i_rg2, i_enum, i_zip, i_rev, sq_lst, sq_tup, wl_vs, v_add, v_sub, v_neg, v_lt, v_le, v_gt, v_ge, v_isN, v_notN, v_isB, v_notB, v_rev, v_lenL, v_lenT, v_abs, v_int, v_listL, v_listT, v_tupleL, v_tupleT, v_max2, v_min2, v_isa, Option.bind_some, List.set_cons_zero, List.set_cons_succ, List.length_cons, List.length_nil, if_true, if_false, reduceIte, Bool.false_eq_true, decide_true, decide_false, isOwn, $ls,*])
local macro_rules
  | `(tactic| simp_arith!) => `(tactic| simp (config := { dsimp := false, implicitDefEqProofs := false }) only [↓wp_bind, ↓wp_o, ↓wo_cons, ↓wp_test1, ↓wp_ok, ↓w_op, ↓w_call, ↓w_callK, ↓w_tup, ↓w_lst, ↓w_ite, ↓w_es_nil, ↓w_es, ↓w_ks_nil, ↓w_ks, keptQ_val, keptQ_new, ↓w_and, ↓w_or, ↓w_not, ↓w_top, ↓w_tvar, ↓w_tcall, ↓w_tcallK, ↓w_teqR, ↓w_asg, ↓w_ret, ↓w_site, ↓w_expr, ↓w_par, ↓w_eqR, slot_z, slot_1, slot_2, slot_3, slot_4, slot_5, slot_6, slot_7, slot_8, slot_9, slot_10, slot_11, slot_12, q_var, q_frz, q_cst, q_op, q_call, q_callK, q_tup, q_lst, q_ite, q_and, q_or, q_not, q_chain, q_pop, q_exAt, es_nil, es_cons, ks_nil, ks_cons, t_and, t_or, t_not, t_op, t_var, t_call, t_callK, t_chain, t_cst, t_eqR, q_eqR, c_yes, c_one, b_ok, b_exc, o_ok, o_exc, of_some, g_val, g_new, g_ref, gs_nil, gs_cons, k_val, k_new, tk_val, tk_new, tk_deal, gv_val, gv_new, gv_ref, m_val, m_new, p_nm, p_tp, p_tpp, putD_nil, putD_cons, putM_nil, putM_cons, put_def, free_def, ts_nil, ts_cons, t1_ok, t1_exc, tr_bl, tr_non, ss_nil, s_asg, s_par, s_aug, s_app, s_ext, s_pop, s_expr, s_doc, s_ret, s_retN, s_pass, s_brk, s_cnt, s_ite, s_raise, s_setix, s_ins, i_seq, i_rg1, i_rg2, i_enum, i_zip, i_rev, sq_lst, sq_tup, wl_vs, v_add, v_sub, v_neg, v_lt, v_le, v_gt, v_ge, v_isN, v_notN, v_isB, v_notB, v_rev, v_lenL, v_lenT, v_abs, v_int, v_listL, v_listT, v_tupleL, v_tupleT, v_max2, v_min2, v_isa, Option.bind_some, List.set_cons_zero, List.set_cons_succ, List.length_cons, List.length_nil, if_true, if_false, reduceIte, Bool.false_eq_true, Bool.true_eq_false, decide_true, decide_false, isOwn, wp_ok, wp_exc, wp_bind, wp_o, wp_ite, wo_ite, wo_nx, wo_rt, wo_bk, wo_ct, wo_exc, wo_cons, wp_test1, tst_mk, v_eqI, v_neI, decide_eq_true_eq, Bool.not_eq_true', decide_eq_false_iff_not, Nat.reduceAdd, Nat.reduceLT, Nat.reduceLeDiff, Nat.zero_add, and_true, true_and])
  | `(tactic| simp_arith! [$ls,*]) => `(tactic| simp (config := { dsimp := false, implicitDefEqProofs := false }) only [↓wp_bind, ↓wp_o, ↓wo_cons, ↓wp_test1, ↓wp_ok, ↓w_op, ↓w_call, ↓w_callK, ↓w_tup, ↓w_lst, ↓w_ite, ↓w_es_nil, ↓w_es, ↓w_ks_nil, ↓w_ks, keptQ_val, keptQ_new, ↓w_and, ↓w_or, ↓w_not, ↓w_top, ↓w_tvar, ↓w_tcall, ↓w_tcallK, ↓w_teqR, ↓w_asg, ↓w_ret, ↓w_site, ↓w_expr, ↓w_par, ↓w_eqR, slot_z, slot_1, slot_2, slot_3, slot_4, slot_5, slot_6, slot_7, slot_8, slot_9, slot_10, slot_11, slot_12, q_var, q_frz, q_cst, q_op, q_call, q_callK, q_tup, q_lst, q_ite, q_and, q_or, q_not, q_chain, q_pop, q_exAt, es_nil, es_cons, ks_nil, ks_cons, t_and, t_or, t_not, t_op, t_var, t_call, t_callK, t_chain, t_cst, t_eqR, q_eqR, c_yes, c_one, b_ok, b_exc, o_ok, o_exc, of_some, g_val, g_new, g_ref, gs_nil, gs_cons, k_val, k_new, tk_val, tk_new, tk_deal, gv_val, gv_new, gv_ref, m_val, m_new, p_nm, p_tp, p_tpp, putD_nil, putD_cons, putM_nil, putM_cons, put_def, free_def, ts_nil, ts_cons, t1_ok, t1_exc, tr_bl, tr_non, ss_nil, s_asg, s_par, s_aug, s_app, s_ext, s_pop, s_expr, s_doc, s_ret, s_retN, s_pass, s_brk, s_cnt, s_ite, s_raise, s_setix, s_ins, i_seq, i_rg1, i_rg2, i_enum, i_zip, i_rev, sq_lst, sq_tup, wl_vs, v_add, v_sub, v_neg, v_lt, v_le, v_gt, v_ge, v_isN, v_notN, v_isB, v_notB, v_rev, v_lenL, v_lenT, v_abs, v_int, v_listL, v_listT, v_tupleL, v_tupleT, v_max2, v_min2, v_isa, Option.bind_some, List.set_cons_zero, List.set_cons_succ, List.length_cons, List.length_nil, if_true, if_false, reduceIte, Bool.false_eq_true, Bool.true_eq_false, decide_true, decide_false, isOwn, wp_ok, wp_exc, wp_bind, wp_o, wp_ite, wo_ite, wo_nx, wo_rt, wo_bk, wo_ct, wo_exc, wo_cons, wp_test1, tst_mk, v_eqI, v_neI, decide_eq_true_eq, Bool.not_eq_true', decide_eq_false_iff_not, Nat.reduceAdd, Nat.reduceLT, Nat.reduceLeDiff, Nat.zero_add, and_true, true_and, $ls,*])
theorem glob_mk {P : Program} {w : World} {K : PySem.W.Frag} {h : Heap} {mg : Str → Option Value} {fz : Addr} (X : K.In h) (G : h.Ns mainGlobals mg) (hz : mg "law" = some (.ref fz)) (math : MathL)
    {C4 I4 : Addr} {B4_0 : Addr} {nm4 q4 : Str} {N4 : Addr} {bs4 : List Value} {sn4 : List Str} {sub4 : List Value} {ab4 : Bool} {col4 : Option Bool} {dd4 : Option Addr} {ma4 mb4 mc4 md4 me4 : Option Value} {od4I an4I : Option Addr} {sl4I : Array (Option Value)} {oc4I dc4I pm4I cd4I ct4I : Value}
    {f0 : Addr} {od0 an0 : Option Addr} {sl0 : Array (Option Value)} {oc0 kV0 dc0 pm0 cd0 ct0 : Value}
    {f1 : Addr} {od1 an1 : Option Addr} {sl1 : Array (Option Value)} {oc1 kV1 dc1 pm1 cd1 ct1 : Value}
    {f2 : Addr} {od2 an2 : Option Addr} {sl2 : Array (Option Value)} {oc2 kV2 dc2 pm2 cd2 ct2 : Value}
    {f3 : Addr} {od3 an3 : Option Addr} {sl3 : Array (Option Value)} {oc3 kV3 dc3 pm3 cd3 ct3 : Value}
    {f4 : Addr} {od4 an4 : Option Addr} {sl4 : Array (Option Value)} {oc4 kV4 dc4 pm4 cd4 ct4 : Value}
    {f5 : Addr} {od5 an5 : Option Addr} {sl5 : Array (Option Value)} {oc5 kV5 dc5 pm5 cd5 ct5 : Value}
    {f6 : Addr} {od6 an6 : Option Addr} {sl6 : Array (Option Value)} {oc6 kV6 dc6 pm6 cd6 ct6 : Value}
    {f7 : Addr} {od7 an7 : Option Addr} {sl7 : Array (Option Value)} {oc7 kV7 dc7 pm7 cd7 ct7 : Value}
    {T7 : Addr} {ot7 : Value} {ob7 : Option Addr} {on7 : Nat} {os7 : Array (Option Value)}
    {tk7_0 : Tok}
    {f8 : Addr} {od8 an8 : Option Addr} {sl8 : Array (Option Value)} {oc8 kV8 dc8 pm8 cd8 ct8 : Value}
    {f9 : Addr} {od9 an9 : Option Addr} {sl9 : Array (Option Value)} {oc9 kV9 dc9 pm9 cd9 ct9 : Value}
    {f10 : Addr} {od10 an10 : Option Addr} {sl10 : Array (Option Value)} {oc10 kV10 dc10 pm10 cd10 ct10 : Value}
    {f11 : Addr} {od11 an11 : Option Addr} {sl11 : Array (Option Value)} {oc11 kV11 dc11 pm11 cd11 ct11 : Value}
    {f12 : Addr} {od12 an12 : Option Addr} {sl12 : Array (Option Value)} {oc12 kV12 dc12 pm12 cd12 ct12 : Value}
    {f13 : Addr} {od13 an13 : Option Addr} {sl13 : Array (Option Value)} {oc13 kV13 dc13 pm13 cd13 ct13 : Value}
    {f14 : Addr} {od14 an14 : Option Addr} {sl14 : Array (Option Value)} {oc14 kV14 dc14 pm14 cd14 ct14 : Value}
    {f15 : Addr} {od15 an15 : Option Addr} {sl15 : Array (Option Value)} {oc15 kV15 dc15 pm15 cd15 ct15 : Value}
    {f16 : Addr} {od16 an16 : Option Addr} {sl16 : Array (Option Value)} {oc16 kV16 dc16 pm16 cd16 ct16 : Value}
    {f17 : Addr} {od17 an17 : Option Addr} {sl17 : Array (Option Value)} {oc17 kV17 dc17 pm17 cd17 ct17 : Value}
    {f18 : Addr} {od18 an18 : Option Addr} {sl18 : Array (Option Value)} {oc18 kV18 dc18 pm18 cd18 ct18 : Value}
    {f19 : Addr} {od19 an19 : Option Addr} {sl19 : Array (Option Value)} {oc19 kV19 dc19 pm19 cd19 ct19 : Value}
    {f20 : Addr} {od20 an20 : Option Addr} {sl20 : Array (Option Value)} {oc20 kV20 dc20 pm20 cd20 ct20 : Value}
    (aC4 : PySem.W.nsIn K mainGlobals "InvalidQuestion" = some (some (.ref C4)))
    (xL4 : K.lookup C4 = some (excClassObj nm4 q4 C4 N4 bs4 [.ref B4_0, .type "ValueError", .type "Exception", .type "BaseException", .type "object"] true sn4 sub4 ab4 col4 dd4 ma4 mb4 mc4 md4 me4 "ValueError.__new__"))
    (sa4 : PySem.W.findIn K (.ref C4) "__setattr__" = some (some (.builtin "object.__setattr__")))
    (ga4 : PySem.W.findIn K (.ref C4) "__getattribute__" = some (some (.builtin "BaseException.__getattribute__")))
    (gg4 : PySem.W.findIn K (.ref C4) "__getattr__" = some none)
    (nb4 : PySem.W.findIn K (.ref C4) atK = some none)
    (aI4 : PySem.W.findIn K (.ref C4) "__init__" = some (some (.ref I4)))
    (tI4 : PySem.W.typeIn K (.ref I4) = some (.type "function"))
    (lI4 : K.lookup I4 = some ⟨oc4I, od4I, .func (PySem.W.fnOf "__init__" "InvalidQuestion.__init__" (At.pars ⟨6, 17, 6, 21⟩ ⟨6, 23, 6, 25⟩) (At.row ⟨7, 8, 7, 12⟩ ⟨7, 8, 7, 15⟩ ⟨7, 18, 7, 20⟩ ⟨7, 8, 7, 20⟩) At.sco .none .none dc4I pm4I an4I cd4I ct4I), sl4I⟩)
    (cI4 : PySem.W.codeIn K cd4I "InvalidQuestion.__init__" = true)
    (kC4 : PySem.W.keepIn K (.ref C4) = true)
    (eC4 : PySem.W.subIn K (.ref C4) (.type "BaseException") = some true)
    (tC4 : PySem.W.typeIn K (.ref C4) = some (.type "type"))
    (hC4 : PySem.W.hasDictIn K C4 = true)
    (iC4 : PySem.W.isClsIn K C4 = true)
    (sC4_4 : PySem.W.subIn K (.ref C4) (.ref C4) = some true)
    (a0 : PySem.W.nsIn K mainGlobals "is_number" = some (some (.ref f0)))
    (l0 : K.lookup f0 = some ⟨oc0, od0, .func (PySem.W.fnOf "is_number" "is_number" (defArgs st_is_number) (defBody st_is_number) (defScope st_is_number) .none kV0 dc0 pm0 an0 cd0 ct0), sl0⟩)
    (cc0 : PySem.W.codeIn K cd0 "is_number" = true)
    (kk0 : PySem.W.keepIn K (.ref f0) = true)
    (a1 : PySem.W.nsIn K mainGlobals "is_tuple_of" = some (some (.ref f1)))
    (l1 : K.lookup f1 = some ⟨oc1, od1, .func (PySem.W.fnOf "is_tuple_of" "is_tuple_of" (defArgs st_is_tuple_of) (defBody st_is_tuple_of) (defScope st_is_tuple_of) .none kV1 dc1 pm1 an1 cd1 ct1), sl1⟩)
    (cc1 : PySem.W.codeIn K cd1 "is_tuple_of" = true)
    (kk1 : PySem.W.keepIn K (.ref f1) = true)
    (a2 : PySem.W.nsIn K mainGlobals "is_ascending" = some (some (.ref f2)))
    (l2 : K.lookup f2 = some ⟨oc2, od2, .func (PySem.W.fnOf "is_ascending" "is_ascending" (defArgs st_is_ascending) (defBody st_is_ascending) (defScope st_is_ascending) .none kV2 dc2 pm2 an2 cd2 ct2), sl2⟩)
    (cc2 : PySem.W.codeIn K cd2 "is_ascending" = true)
    (kk2 : PySem.W.keepIn K (.ref f2) = true)
    (a3 : PySem.W.nsIn K mainGlobals "is_run" = some (some (.ref f3)))
    (l3 : K.lookup f3 = some ⟨oc3, od3, .func (PySem.W.fnOf "is_run" "is_run" (defArgs st_is_run) (defBody st_is_run) (defScope st_is_run) .none kV3 dc3 pm3 an3 cd3 ct3), sl3⟩)
    (cc3 : PySem.W.codeIn K cd3 "is_run" = true)
    (kk3 : PySem.W.keepIn K (.ref f3) = true)
    (a4 : PySem.W.nsIn K mainGlobals "has_form" = some (some (.ref f4)))
    (l4 : K.lookup f4 = some ⟨oc4, od4, .func (PySem.W.fnOf "has_form" "has_form" (defArgs st_has_form) (defBody st_has_form) (defScope st_has_form) .none kV4 dc4 pm4 an4 cd4 ct4), sl4⟩)
    (cc4 : PySem.W.codeIn K cd4 "has_form" = true)
    (kk4 : PySem.W.keepIn K (.ref f4) = true)
    (a5 : PySem.W.nsIn K mainGlobals "tells" = some (some (.ref f5)))
    (l5 : K.lookup f5 = some ⟨oc5, od5, .func (PySem.W.fnOf "tells" "tells" (defArgs st_tells) (defBody st_tells) (defScope st_tells) .none kV5 dc5 pm5 an5 cd5 ct5), sl5⟩)
    (cc5 : PySem.W.codeIn K cd5 "tells" = true)
    (kk5 : PySem.W.keepIn K (.ref f5) = true)
    (a6 : PySem.W.nsIn K mainGlobals "is_falling" = some (some (.ref f6)))
    (l6 : K.lookup f6 = some ⟨oc6, od6, .func (PySem.W.fnOf "is_falling" "is_falling" (defArgs st_is_falling) (defBody st_is_falling) (defScope st_is_falling) .none kV6 dc6 pm6 an6 cd6 ct6), sl6⟩)
    (cc6 : PySem.W.codeIn K cd6 "is_falling" = true)
    (kk6 : PySem.W.keepIn K (.ref f6) = true)
    (a7 : PySem.W.nsIn K mainGlobals "checked_falling" = some (some (.ref f7)))
    (l7 : K.lookup f7 = some ⟨oc7, od7, .func (PySem.W.fnOf "checked_falling" "checked_falling" (defArgs st_checked_falling) (defBody st_checked_falling) (defScope st_checked_falling) (.ref T7) kV7 dc7 pm7 an7 cd7 ct7), sl7⟩)
    (cc7 : PySem.W.codeIn K cd7 "checked_falling" = true)
    (kk7 : PySem.W.keepIn K (.ref f7) = true)
    (lT7 : K.lookup T7 = some ⟨ot7, ob7, .seq #[Value.int 0 tk7_0] on7, os7⟩)
    (a8 : PySem.W.nsIn K mainGlobals "has" = some (some (.ref f8)))
    (l8 : K.lookup f8 = some ⟨oc8, od8, .func (PySem.W.fnOf "has" "has" (defArgs st_has) (defBody st_has) (defScope st_has) .none kV8 dc8 pm8 an8 cd8 ct8), sl8⟩)
    (cc8 : PySem.W.codeIn K cd8 "has" = true)
    (kk8 : PySem.W.keepIn K (.ref f8) = true)
    (a9 : PySem.W.nsIn K mainGlobals "_law_draw" = some (some (.ref f9)))
    (l9 : K.lookup f9 = some ⟨oc9, od9, .func (PySem.W.fnOf "_law_draw" "_law_draw" (defArgs st__law_draw) (defBody st__law_draw) (defScope st__law_draw) .none kV9 dc9 pm9 an9 cd9 ct9), sl9⟩)
    (cc9 : PySem.W.codeIn K cd9 "_law_draw" = true)
    (kk9 : PySem.W.keepIn K (.ref f9) = true)
    (a10 : PySem.W.nsIn K mainGlobals "_law_any" = some (some (.ref f10)))
    (l10 : K.lookup f10 = some ⟨oc10, od10, .func (PySem.W.fnOf "_law_any" "_law_any" (defArgs st__law_any) (defBody st__law_any) (defScope st__law_any) .none kV10 dc10 pm10 an10 cd10 ct10), sl10⟩)
    (cc10 : PySem.W.codeIn K cd10 "_law_any" = true)
    (kk10 : PySem.W.keepIn K (.ref f10) = true)
    (a11 : PySem.W.nsIn K mainGlobals "_law_of" = some (some (.ref f11)))
    (l11 : K.lookup f11 = some ⟨oc11, od11, .func (PySem.W.fnOf "_law_of" "_law_of" (defArgs st__law_of) (defBody st__law_of) (defScope st__law_of) .none kV11 dc11 pm11 an11 cd11 ct11), sl11⟩)
    (cc11 : PySem.W.codeIn K cd11 "_law_of" = true)
    (kk11 : PySem.W.keepIn K (.ref f11) = true)
    (a12 : PySem.W.nsIn K mainGlobals "_law_in" = some (some (.ref f12)))
    (l12 : K.lookup f12 = some ⟨oc12, od12, .func (PySem.W.fnOf "_law_in" "_law_in" (defArgs st__law_in) (defBody st__law_in) (defScope st__law_in) .none kV12 dc12 pm12 an12 cd12 ct12), sl12⟩)
    (cc12 : PySem.W.codeIn K cd12 "_law_in" = true)
    (kk12 : PySem.W.keepIn K (.ref f12) = true)
    (a13 : PySem.W.nsIn K mainGlobals "_law_euclid" = some (some (.ref f13)))
    (l13 : K.lookup f13 = some ⟨oc13, od13, .func (PySem.W.fnOf "_law_euclid" "_law_euclid" (defArgs st__law_euclid) (defBody st__law_euclid) (defScope st__law_euclid) .none kV13 dc13 pm13 an13 cd13 ct13), sl13⟩)
    (cc13 : PySem.W.codeIn K cd13 "_law_euclid" = true)
    (kk13 : PySem.W.keepIn K (.ref f13) = true)
    (a14 : PySem.W.nsIn K mainGlobals "_law_row" = some (some (.ref f14)))
    (l14 : K.lookup f14 = some ⟨oc14, od14, .func (PySem.W.fnOf "_law_row" "_law_row" (defArgs st__law_row) (defBody st__law_row) (defScope st__law_row) .none kV14 dc14 pm14 an14 cd14 ct14), sl14⟩)
    (cc14 : PySem.W.codeIn K cd14 "_law_row" = true)
    (kk14 : PySem.W.keepIn K (.ref f14) = true)
    (a15 : PySem.W.nsIn K mainGlobals "_law_is_number" = some (some (.ref f15)))
    (l15 : K.lookup f15 = some ⟨oc15, od15, .func (PySem.W.fnOf "_law_is_number" "_law_is_number" (defArgs st__law_is_number) (defBody st__law_is_number) (defScope st__law_is_number) .none kV15 dc15 pm15 an15 cd15 ct15), sl15⟩)
    (cc15 : PySem.W.codeIn K cd15 "_law_is_number" = true)
    (kk15 : PySem.W.keepIn K (.ref f15) = true)
    (a16 : PySem.W.nsIn K mainGlobals "_law_is_falling" = some (some (.ref f16)))
    (l16 : K.lookup f16 = some ⟨oc16, od16, .func (PySem.W.fnOf "_law_is_falling" "_law_is_falling" (defArgs st__law_is_falling) (defBody st__law_is_falling) (defScope st__law_is_falling) .none kV16 dc16 pm16 an16 cd16 ct16), sl16⟩)
    (cc16 : PySem.W.codeIn K cd16 "_law_is_falling" = true)
    (kk16 : PySem.W.keepIn K (.ref f16) = true)
    (a17 : PySem.W.nsIn K mainGlobals "_law_near" = some (some (.ref f17)))
    (l17 : K.lookup f17 = some ⟨oc17, od17, .func (PySem.W.fnOf "_law_near" "_law_near" (defArgs st__law_near) (defBody st__law_near) (defScope st__law_near) .none kV17 dc17 pm17 an17 cd17 ct17), sl17⟩)
    (cc17 : PySem.W.codeIn K cd17 "_law_near" = true)
    (kk17 : PySem.W.keepIn K (.ref f17) = true)
    (a18 : PySem.W.nsIn K mainGlobals "_law_count" = some (some (.ref f18)))
    (l18 : K.lookup f18 = some ⟨oc18, od18, .func (PySem.W.fnOf "_law_count" "_law_count" (defArgs st__law_count) (defBody st__law_count) (defScope st__law_count) .none kV18 dc18 pm18 an18 cd18 ct18), sl18⟩)
    (cc18 : PySem.W.codeIn K cd18 "_law_count" = true)
    (kk18 : PySem.W.keepIn K (.ref f18) = true)
    (a19 : PySem.W.nsIn K mainGlobals "_law_refused" = some (some (.ref f19)))
    (l19 : K.lookup f19 = some ⟨oc19, od19, .func (PySem.W.fnOf "_law_refused" "_law_refused" (defArgs st__law_refused) (defBody st__law_refused) (defScope st__law_refused) .none kV19 dc19 pm19 an19 cd19 ct19), sl19⟩)
    (cc19 : PySem.W.codeIn K cd19 "_law_refused" = true)
    (kk19 : PySem.W.keepIn K (.ref f19) = true)
    (a20 : PySem.W.nsIn K mainGlobals "law" = some (some (.ref f20)))
    (l20 : K.lookup f20 = some ⟨oc20, od20, .func (PySem.W.fnOf "law" "law" (defArgs st_law) (defBody st_law) (defScope st_law) .none kV20 dc20 pm20 an20 cd20 ct20), sl20⟩)
    (cc20 : PySem.W.codeIn K cd20 "law" = true)
    (kk20 : PySem.W.keepIn K (.ref f20) = true)
    (z_abs : PySem.W.nsIn K mainGlobals "abs" = some none)
    (z_all : PySem.W.nsIn K mainGlobals "all" = some none)
    (z_bool : PySem.W.nsIn K mainGlobals "bool" = some none)
    (z_enumerate : PySem.W.nsIn K mainGlobals "enumerate" = some none)
    (z_int : PySem.W.nsIn K mainGlobals "int" = some none)
    (z_isinstance : PySem.W.nsIn K mainGlobals "isinstance" = some none)
    (z_len : PySem.W.nsIn K mainGlobals "len" = some none)
    (z_list : PySem.W.nsIn K mainGlobals "list" = some none)
    (z_max : PySem.W.nsIn K mainGlobals "max" = some none)
    (z_min : PySem.W.nsIn K mainGlobals "min" = some none)
    (z_range : PySem.W.nsIn K mainGlobals "range" = some none)
    (z_repr : PySem.W.nsIn K mainGlobals "repr" = some none)
    (z_reversed : PySem.W.nsIn K mainGlobals "reversed" = some none)
    (z_set : PySem.W.nsIn K mainGlobals "set" = some none)
    (z_sorted : PySem.W.nsIn K mainGlobals "sorted" = some none)
    (z_sum : PySem.W.nsIn K mainGlobals "sum" = some none)
    (z_tuple : PySem.W.nsIn K mainGlobals "tuple" = some none)
    (z_zip : PySem.W.nsIn K mainGlobals "zip" = some none) :
    ∃ fd : FuncData, (∀ (s : Shared) (u : Value), BindsTo s fd ⟨[u], []⟩ [("script", u)]) ∧ ∀ base : Heap, K.In base → base.Ns mainGlobals mg → FnG P w K mg base 8 fz fd ["script"] (spL K 63) := by
  have e : some (Value.ref f20) = some (Value.ref fz) := (PySem.W.mg_of X G a20).symm.trans hz
  have e2 : f20 = fz := by
    cases e
    rfl
  subst e2
  have txt4 : At.Txt K mg "InvalidQuestion" "InvalidQuestion.__init__" C4 I4 := ⟨PySem.W.mg_of X G aC4, ⟨nm4, q4, N4, bs4, _, sn4, sub4, ab4, col4, dd4, ma4, mb4, mc4, md4, me4, xL4, by first | rfl | decide +kernel⟩, sa4, ga4, gg4, nb4, aI4, tI4, kC4, eC4, tC4, hC4, ⟨_, _, _, _, _, _, _, _, _, _, _, _, _, _, lI4, cI4⟩⟩
  have F0 := fun_mk (st := st_is_number) l0 cc0 kk0
  have F1 := fun_mk (st := st_is_tuple_of) l1 cc1 kk1
  have F2 := fun_mk (st := st_is_ascending) l2 cc2 kk2
  have F3 := fun_mk (st := st_is_run) l3 cc3 kk3
  have F4 := fun_mk (st := st_has_form) l4 cc4 kk4
  have F5 := fun_mk (st := st_tells) l5 cc5 kk5
  have F6 := fun_mk (st := st_is_falling) l6 cc6 kk6
  have F7 := funD_mk (st := st_checked_falling) l7 cc7 kk7 (dvs := [V.int 0]) (dflt1 (its := [Value.int 0 tk7_0]) lT7 rfl (.cons (by first | exact rfl | exact ⟨_, rfl⟩ | constructor) (.nil)) (by simp))
  have F8 := fun_mk (st := st_has) l8 cc8 kk8
  have F9 := fun_mk (st := st__law_draw) l9 cc9 kk9
  have F10 := fun_mk (st := st__law_any) l10 cc10 kk10
  have F11 := fun_mk (st := st__law_of) l11 cc11 kk11
  have F12 := fun_mk (st := st__law_in) l12 cc12 kk12
  have F13 := fun_mk (st := st__law_euclid) l13 cc13 kk13
  have F14 := fun_mk (st := st__law_row) l14 cc14 kk14
  have F15 := fun_mk (st := st__law_is_number) l15 cc15 kk15
  have F16 := fun_mk (st := st__law_is_falling) l16 cc16 kk16
  have F17 := fun_mk (st := st__law_near) l17 cc17 kk17
  have F18 := fun_mk (st := st__law_count) l18 cc18 kk18
  have F19 := fun_mk (st := st__law_refused) l19 cc19 kk19
  have F20 := fun_mk (st := st_law) l20 cc20 kk20
  have T : Glob K mg (nth 0 [0, 0, 0, 0, C4]) (nth 0 [f0, f1, f2, f3, f4, f5, f6, f7, f8, f9, f10, f11, f12, f13, f14, f15, f16, f17, f18, f19, f20]) (nth (PySem.W.fnOf "is_number" "is_number" (defArgs st_is_number) (defBody st_is_number) (defScope st_is_number) .none kV0 dc0 pm0 an0 cd0 ct0) [PySem.W.fnOf "is_number" "is_number" (defArgs st_is_number) (defBody st_is_number) (defScope st_is_number) .none kV0 dc0 pm0 an0 cd0 ct0,
    PySem.W.fnOf "is_tuple_of" "is_tuple_of" (defArgs st_is_tuple_of) (defBody st_is_tuple_of) (defScope st_is_tuple_of) .none kV1 dc1 pm1 an1 cd1 ct1,
    PySem.W.fnOf "is_ascending" "is_ascending" (defArgs st_is_ascending) (defBody st_is_ascending) (defScope st_is_ascending) .none kV2 dc2 pm2 an2 cd2 ct2,
    PySem.W.fnOf "is_run" "is_run" (defArgs st_is_run) (defBody st_is_run) (defScope st_is_run) .none kV3 dc3 pm3 an3 cd3 ct3,
    PySem.W.fnOf "has_form" "has_form" (defArgs st_has_form) (defBody st_has_form) (defScope st_has_form) .none kV4 dc4 pm4 an4 cd4 ct4,
    PySem.W.fnOf "tells" "tells" (defArgs st_tells) (defBody st_tells) (defScope st_tells) .none kV5 dc5 pm5 an5 cd5 ct5,
    PySem.W.fnOf "is_falling" "is_falling" (defArgs st_is_falling) (defBody st_is_falling) (defScope st_is_falling) .none kV6 dc6 pm6 an6 cd6 ct6,
    PySem.W.fnOf "checked_falling" "checked_falling" (defArgs st_checked_falling) (defBody st_checked_falling) (defScope st_checked_falling) (.ref T7) kV7 dc7 pm7 an7 cd7 ct7,
    PySem.W.fnOf "has" "has" (defArgs st_has) (defBody st_has) (defScope st_has) .none kV8 dc8 pm8 an8 cd8 ct8,
    PySem.W.fnOf "_law_draw" "_law_draw" (defArgs st__law_draw) (defBody st__law_draw) (defScope st__law_draw) .none kV9 dc9 pm9 an9 cd9 ct9,
    PySem.W.fnOf "_law_any" "_law_any" (defArgs st__law_any) (defBody st__law_any) (defScope st__law_any) .none kV10 dc10 pm10 an10 cd10 ct10,
    PySem.W.fnOf "_law_of" "_law_of" (defArgs st__law_of) (defBody st__law_of) (defScope st__law_of) .none kV11 dc11 pm11 an11 cd11 ct11,
    PySem.W.fnOf "_law_in" "_law_in" (defArgs st__law_in) (defBody st__law_in) (defScope st__law_in) .none kV12 dc12 pm12 an12 cd12 ct12,
    PySem.W.fnOf "_law_euclid" "_law_euclid" (defArgs st__law_euclid) (defBody st__law_euclid) (defScope st__law_euclid) .none kV13 dc13 pm13 an13 cd13 ct13,
    PySem.W.fnOf "_law_row" "_law_row" (defArgs st__law_row) (defBody st__law_row) (defScope st__law_row) .none kV14 dc14 pm14 an14 cd14 ct14,
    PySem.W.fnOf "_law_is_number" "_law_is_number" (defArgs st__law_is_number) (defBody st__law_is_number) (defScope st__law_is_number) .none kV15 dc15 pm15 an15 cd15 ct15,
    PySem.W.fnOf "_law_is_falling" "_law_is_falling" (defArgs st__law_is_falling) (defBody st__law_is_falling) (defScope st__law_is_falling) .none kV16 dc16 pm16 an16 cd16 ct16,
    PySem.W.fnOf "_law_near" "_law_near" (defArgs st__law_near) (defBody st__law_near) (defScope st__law_near) .none kV17 dc17 pm17 an17 cd17 ct17,
    PySem.W.fnOf "_law_count" "_law_count" (defArgs st__law_count) (defBody st__law_count) (defScope st__law_count) .none kV18 dc18 pm18 an18 cd18 ct18,
    PySem.W.fnOf "_law_refused" "_law_refused" (defArgs st__law_refused) (defBody st__law_refused) (defScope st__law_refused) .none kV19 dc19 pm19 an19 cd19 ct19,
    PySem.W.fnOf "law" "law" (defArgs st_law) (defBody st_law) (defScope st_law) .none kV20 dc20 pm20 an20 cd20 ct20]) := {
    c4 := ⟨I4, txt4⟩,
    x4 := PySem.W.mg_of X G aC4,
    h4 := ⟨(fun k hk => by
      simp only [List.mem_cons, List.not_mem_nil, or_false] at hk
      rcases hk with rfl
      · exact exm_by eC4 iC4 tC4 sC4_4
      ), (fun k hk => by simp only [List.not_mem_nil] at hk)⟩,
    e4 := (fun k hk => by
      simp only [List.mem_cons, List.not_mem_nil, or_false] at hk
      rcases hk with rfl
      · exact ⟨_, _, _, txt4⟩
      ),
    F0 := F0,
    m0 := PySem.W.mg_of X G a0,
    F1 := F1,
    m1 := PySem.W.mg_of X G a1,
    F2 := F2,
    m2 := PySem.W.mg_of X G a2,
    F3 := F3,
    m3 := PySem.W.mg_of X G a3,
    F4 := F4,
    m4 := PySem.W.mg_of X G a4,
    F5 := F5,
    m5 := PySem.W.mg_of X G a5,
    F6 := F6,
    m6 := PySem.W.mg_of X G a6,
    F7 := F7,
    m7 := PySem.W.mg_of X G a7,
    F8 := F8,
    m8 := PySem.W.mg_of X G a8,
    F9 := F9,
    m9 := PySem.W.mg_of X G a9,
    F10 := F10,
    m10 := PySem.W.mg_of X G a10,
    F11 := F11,
    m11 := PySem.W.mg_of X G a11,
    F12 := F12,
    m12 := PySem.W.mg_of X G a12,
    F13 := F13,
    m13 := PySem.W.mg_of X G a13,
    F14 := F14,
    m14 := PySem.W.mg_of X G a14,
    F15 := F15,
    m15 := PySem.W.mg_of X G a15,
    F16 := F16,
    m16 := PySem.W.mg_of X G a16,
    F17 := F17,
    m17 := PySem.W.mg_of X G a17,
    F18 := F18,
    m18 := PySem.W.mg_of X G a18,
    F19 := F19,
    m19 := PySem.W.mg_of X G a19,
    F20 := F20,
    m20 := PySem.W.mg_of X G a20,
    b0 := F0.binds (ps := ["value"]) fun _ _ _ _ _ _ us hl => match us, hl with | [_], _ => rfl,
    b1 := F1.binds (ps := ["value", "size"]) fun _ _ _ _ _ _ us hl => match us, hl with | [_, _], _ => rfl,
    b2 := F2.binds (ps := ["values"]) fun _ _ _ _ _ _ us hl => match us, hl with | [_], _ => rfl,
    b3 := F3.binds (ps := ["value"]) fun _ _ _ _ _ _ us hl => match us, hl with | [_], _ => rfl,
    b4 := F4.binds (ps := ["value"]) fun _ _ _ _ _ _ us hl => match us, hl with | [_], _ => rfl,
    b5 := F5.binds (ps := ["runs", "end", "count"]) fun _ _ _ _ _ _ us hl => match us, hl with | [_, _, _], _ => rfl,
    b6 := F6.binds (ps := ["value"]) fun _ _ _ _ _ _ us hl => match us, hl with | [_], _ => rfl,
    b8 := F8.binds (ps := ["falling", "count"]) fun _ _ _ _ _ _ us hl => match us, hl with | [_, _], _ => rfl,
    b9 := F9.binds (ps := ["script", "salt"]) fun _ _ _ _ _ _ us hl => match us, hl with | [_, _], _ => rfl,
    b10 := F10.binds (ps := ["deal", "bound"]) fun _ _ _ _ _ _ us hl => match us, hl with | [_, _], _ => rfl,
    b11 := F11.binds (ps := ["deal", "some"]) fun _ _ _ _ _ _ us hl => match us, hl with | [_, _], _ => rfl,
    b12 := F12.binds (ps := ["row", "count"]) fun _ _ _ _ _ _ us hl => match us, hl with | [_, _], _ => rfl,
    b13 := F13.binds (ps := ["counts"]) fun _ _ _ _ _ _ us hl => match us, hl with | [_], _ => rfl,
    b14 := F14.binds (ps := ["deal"]) fun _ _ _ _ _ _ us hl => match us, hl with | [_], _ => rfl,
    b15 := F15.binds (ps := ["value"]) fun _ _ _ _ _ _ us hl => match us, hl with | [_], _ => rfl,
    b16 := F16.binds (ps := ["value"]) fun _ _ _ _ _ _ us hl => match us, hl with | [_], _ => rfl,
    b17 := F17.binds (ps := ["deal", "row"]) fun _ _ _ _ _ _ us hl => match us, hl with | [_, _], _ => rfl,
    b18 := F18.binds (ps := ["deal", "row"]) fun _ _ _ _ _ _ us hl => match us, hl with | [_, _], _ => rfl,
    b19 := F19.binds (ps := ["value"]) fun _ _ _ _ _ _ us hl => match us, hl with | [_], _ => rfl,
    b7_1 := F7.binds1 (ps := ["value", "at"]) 1 0 (by simp) rfl fun T kV doc pm an cdv ct us its hu hi => match us, its, hu, hi with | [_], [_], _, _ => ⟨_, rfl, rfl⟩,
    k8_count_falling := fun s ws _ hl => match ws, hl with | [_, _], _ => .of_eq rfl,
    k6_value := fun s ws _ hl => match ws, hl with | [_], _ => .of_eq rfl,
    n_abs := PySem.W.mg_none_of X G z_abs,
    n_all := PySem.W.mg_none_of X G z_all,
    n_bool := PySem.W.mg_none_of X G z_bool,
    n_enumerate := PySem.W.mg_none_of X G z_enumerate,
    n_int := PySem.W.mg_none_of X G z_int,
    n_isinstance := PySem.W.mg_none_of X G z_isinstance,
    n_len := PySem.W.mg_none_of X G z_len,
    n_list := PySem.W.mg_none_of X G z_list,
    n_max := PySem.W.mg_none_of X G z_max,
    n_min := PySem.W.mg_none_of X G z_min,
    n_range := PySem.W.mg_none_of X G z_range,
    n_repr := PySem.W.mg_none_of X G z_repr,
    n_reversed := PySem.W.mg_none_of X G z_reversed,
    n_set := PySem.W.mg_none_of X G z_set,
    n_sorted := PySem.W.mg_none_of X G z_sorted,
    n_sum := PySem.W.mg_none_of X G z_sum,
    n_tuple := PySem.W.mg_none_of X G z_tuple,
    n_zip := PySem.W.mg_none_of X G z_zip }
  exact ⟨PySem.W.fnOf "law" "law" (defArgs st_law) (defBody st_law) (defScope st_law) .none kV20 dc20 pm20 an20 cd20 ct20, fun s u => .of_eq rfl, fun base _ _ => ok_law T math⟩
end Rx.K05
open PySem PySem.W PyProof.Rows
set_option maxRecDepth 100000 in
set_option maxHeartbeats 0 in
theorem PySem.Challenge.cw_bodyforbody_k05_whole_falling_rows_holds : PySem.Challenge.rw_bodyforbody_k05_whole_falling_rows.Holds := by
  w_on; o_law; k_head; (case hw => w_witness2)
  k_fill
  refine Rx.walk_ofG (l := PySem.Challenge.rw_bodyforbody_k05_whole_falling_rows) (k := 8) (x := "script") (n := 63) (spw := fun w => Rx.spL _ 63) rfl (by decide) rfl ⟨rfl, by decide, by decide⟩ (fun w h Y => PySem.W.kIn_of Y) ?F (fun w H a ns hl hb _ hS => ⟨a, ns, rfl, hS, hl, hb, fun _ => rfl⟩)
  case F =>
    intro w mg fa h KX G hmg
    refine' Rx.K05.glob_mk KX G hmg Rx.K05.math ?aC4 ?xL4 ?sa4 ?ga4 ?gg4 ?nb4 ?aI4 ?tI4 ?lI4 ?cI4 ?kC4 ?eC4 ?tC4 ?hC4 ?iC4 ?sC4_4 ?a0 ?l0 ?cc0 ?kk0 ?a1 ?l1 ?cc1 ?kk1 ?a2 ?l2 ?cc2 ?kk2 ?a3 ?l3 ?cc3 ?kk3 ?a4 ?l4 ?cc4 ?kk4 ?a5 ?l5 ?cc5 ?kk5 ?a6 ?l6 ?cc6 ?kk6 ?a7 ?l7 ?cc7 ?kk7 ?lT7 ?a8 ?l8 ?cc8 ?kk8 ?a9 ?l9 ?cc9 ?kk9 ?a10 ?l10 ?cc10 ?kk10 ?a11 ?l11 ?cc11 ?kk11 ?a12 ?l12 ?cc12 ?kk12 ?a13 ?l13 ?cc13 ?kk13 ?a14 ?l14 ?cc14 ?kk14 ?a15 ?l15 ?cc15 ?kk15 ?a16 ?l16 ?cc16 ?kk16 ?a17 ?l17 ?cc17 ?kk17 ?a18 ?l18 ?cc18 ?kk18 ?a19 ?l19 ?cc19 ?kk19 ?a20 ?l20 ?cc20 ?kk20 ?z_abs ?z_all ?z_bool ?z_enumerate ?z_int ?z_isinstance ?z_len ?z_list ?z_max ?z_min ?z_range ?z_repr ?z_reversed ?z_set ?z_sorted ?z_sum ?z_tuple ?z_zip
    (case aC4 => first | k_is | rfl)
    (case xL4 => first | k_is | rfl)
    (case sa4 => first | k_is | rfl)
    (case ga4 => first | k_is | rfl)
    (case gg4 => first | k_is | rfl)
    (case nb4 => first | k_is | rfl)
    (case aI4 => first | k_is | rfl)
    (case tI4 => first | k_is | rfl)
    (case lI4 => first | k_is | rfl)
    (case cI4 => first | k_is | rfl)
    (case kC4 => first | k_is | rfl)
    (case eC4 => first | k_is | rfl)
    (case tC4 => first | k_is | rfl)
    (case hC4 => first | k_is | rfl)
    (case iC4 => first | k_is | rfl)
    (case sC4_4 => first | k_is | rfl)
    (case a0 => first | k_is | rfl)
    (case l0 => first | k_is | rfl)
    (case cc0 => first | k_is | rfl)
    (case kk0 => first | k_is | rfl)
    (case a1 => first | k_is | rfl)
    (case l1 => first | k_is | rfl)
    (case cc1 => first | k_is | rfl)
    (case kk1 => first | k_is | rfl)
    (case a2 => first | k_is | rfl)
    (case l2 => first | k_is | rfl)
    (case cc2 => first | k_is | rfl)
    (case kk2 => first | k_is | rfl)
    (case a3 => first | k_is | rfl)
    (case l3 => first | k_is | rfl)
    (case cc3 => first | k_is | rfl)
    (case kk3 => first | k_is | rfl)
    (case a4 => first | k_is | rfl)
    (case l4 => first | k_is | rfl)
    (case cc4 => first | k_is | rfl)
    (case kk4 => first | k_is | rfl)
    (case a5 => first | k_is | rfl)
    (case l5 => first | k_is | rfl)
    (case cc5 => first | k_is | rfl)
    (case kk5 => first | k_is | rfl)
    (case a6 => first | k_is | rfl)
    (case l6 => first | k_is | rfl)
    (case cc6 => first | k_is | rfl)
    (case kk6 => first | k_is | rfl)
    (case a7 => first | k_is | rfl)
    (case l7 => first | k_is | rfl)
    (case cc7 => first | k_is | rfl)
    (case kk7 => first | k_is | rfl)
    (case lT7 => first | k_is | rfl)
    (case a8 => first | k_is | rfl)
    (case l8 => first | k_is | rfl)
    (case cc8 => first | k_is | rfl)
    (case kk8 => first | k_is | rfl)
    (case a9 => first | k_is | rfl)
    (case l9 => first | k_is | rfl)
    (case cc9 => first | k_is | rfl)
    (case kk9 => first | k_is | rfl)
    (case a10 => first | k_is | rfl)
    (case l10 => first | k_is | rfl)
    (case cc10 => first | k_is | rfl)
    (case kk10 => first | k_is | rfl)
    (case a11 => first | k_is | rfl)
    (case l11 => first | k_is | rfl)
    (case cc11 => first | k_is | rfl)
    (case kk11 => first | k_is | rfl)
    (case a12 => first | k_is | rfl)
    (case l12 => first | k_is | rfl)
    (case cc12 => first | k_is | rfl)
    (case kk12 => first | k_is | rfl)
    (case a13 => first | k_is | rfl)
    (case l13 => first | k_is | rfl)
    (case cc13 => first | k_is | rfl)
    (case kk13 => first | k_is | rfl)
    (case a14 => first | k_is | rfl)
    (case l14 => first | k_is | rfl)
    (case cc14 => first | k_is | rfl)
    (case kk14 => first | k_is | rfl)
    (case a15 => first | k_is | rfl)
    (case l15 => first | k_is | rfl)
    (case cc15 => first | k_is | rfl)
    (case kk15 => first | k_is | rfl)
    (case a16 => first | k_is | rfl)
    (case l16 => first | k_is | rfl)
    (case cc16 => first | k_is | rfl)
    (case kk16 => first | k_is | rfl)
    (case a17 => first | k_is | rfl)
    (case l17 => first | k_is | rfl)
    (case cc17 => first | k_is | rfl)
    (case kk17 => first | k_is | rfl)
    (case a18 => first | k_is | rfl)
    (case l18 => first | k_is | rfl)
    (case cc18 => first | k_is | rfl)
    (case kk18 => first | k_is | rfl)
    (case a19 => first | k_is | rfl)
    (case l19 => first | k_is | rfl)
    (case cc19 => first | k_is | rfl)
    (case kk19 => first | k_is | rfl)
    (case a20 => first | k_is | rfl)
    (case l20 => first | k_is | rfl)
    (case cc20 => first | k_is | rfl)
    (case kk20 => first | k_is | rfl)
    (case z_abs => first | k_is | rfl)
    (case z_all => first | k_is | rfl)
    (case z_bool => first | k_is | rfl)
    (case z_enumerate => first | k_is | rfl)
    (case z_int => first | k_is | rfl)
    (case z_isinstance => first | k_is | rfl)
    (case z_len => first | k_is | rfl)
    (case z_list => first | k_is | rfl)
    (case z_max => first | k_is | rfl)
    (case z_min => first | k_is | rfl)
    (case z_range => first | k_is | rfl)
    (case z_repr => first | k_is | rfl)
    (case z_reversed => first | k_is | rfl)
    (case z_set => first | k_is | rfl)
    (case z_sorted => first | k_is | rfl)
    (case z_sum => first | k_is | rfl)
    (case z_tuple => first | k_is | rfl)
    (case z_zip => first | k_is | rfl)
#print axioms PySem.Challenge.cw_bodyforbody_k05_whole_falling_rows_holds

